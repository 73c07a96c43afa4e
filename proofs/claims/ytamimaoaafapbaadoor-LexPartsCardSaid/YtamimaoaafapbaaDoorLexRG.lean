import Derived.Test.YtamimaoaafapbaaDoorLexRF
import Derived.Test.YtamimaoaafapbaaDoorLexT
import Derived.LoopN
namespace Go.Proofs.YtamimaoaafapbaaDoor
open Go Go.RowKit

theorem flat_get {α : Type} (f : α → List Value) (hf : ∀ t, (f t).length = 6) (ts : List α) : ∀ (k j : Nat) (h : k < ts.length), j < 6 → (ts.flatMap f)[k * 6 + j]? = (f ts[k])[j]? := by
  induction ts with
  | nil => intro k j h; simp at h
  | cons t r ih =>
    intro k j h hj
    rw [List.flatMap_cons]
    cases k with
    | zero =>
      rw [Nat.zero_mul, Nat.zero_add, List.getElem?_append_left (by rw [hf]; exact hj)]
      rfl
    | succ k =>
      rw [List.getElem?_append_right (by rw [hf]; omega), hf, show (k + 1) * 6 + j - 6 = k * 6 + j from by omega]
      exact ih k j (by simpa using h) hj

/-- A slice of tokens, six cells each. -/
structure SixAt (w : World) (v : Value) (n : Nat) (xs : List Value) : Prop where
  form : ∃ ad cap, v = .slice ad n cap ∧ n ≤ maxLen ∧ (0 < n → ∃ g, ad = some ⟨g, 0, none⟩ ∧ g < w.heap.size ∧ ∀ j, j < n * 6 → w.cell? ⟨g, j, none⟩ = xs[j]?)
theorem sixAt_own {w : World} {base : Nat} {e : TypeId} {v : Value} {n : Nat} {xs : List Value} (h : w.ownsRow base e 6 v n xs) : SixAt w v n xs := by
  have h' := h
  rcases h.2 with ⟨h1, h0⟩ | ⟨g, cap, cur, rfl, hg, hh, h1, h2, _, _⟩
  · refine ⟨⟨none, 0, ?_, by omega, fun h => by omega⟩⟩
    rw [h1, h0]
  · refine ⟨⟨some ⟨g, 0, none⟩, cap, rfl, by omega, fun _ => ⟨g, rfl, ?_, fun j hj => h'.cellAt j hj⟩⟩⟩
    rcases Nat.lt_or_ge g w.heap.size with h | h
    · exact h
    · rw [Array.getElem?_eq_none h] at hh; cases hh
theorem SixAt.below {w w' : World} {v : Value} {n : Nat} {xs : List Value} (h : SixAt w v n xs) (hb : Below w.heap.size w w') : SixAt w' v n xs := by
  obtain ⟨ad, cap, h1, h2, h3⟩ := h.form
  refine ⟨⟨ad, cap, h1, h2, fun h => ?_⟩⟩
  obtain ⟨g, hg, hlt, hc⟩ := h3 h
  exact ⟨g, hg, by have := hb.size; omega, fun j hj => by rw [hb.cell (p := ⟨g, j, none⟩) hlt]; exact hc j hj⟩

set_option maxHeartbeats 1000000 in
set_option maxRecDepth 100000 in
theorem same_any (v v' : Value) (ts : List Tok) (w : World) (h1 : SixAt w v ts.length (flatT ts)) (h2 : SixAt w v' ts.length (flatR ts)) :
    Calls Tryd.prog 11 #[v, v'] w fun e w' => e = .returned (.bool true) ∧ Below w.heap.size w w' := by
  obtain ⟨ad, cap, rfl, hm1, hc1⟩ := h1.form
  obtain ⟨ad', cap', rfl, _, hc2⟩ := h2.form
  have HC1 := Lib.hid hc1
  have HC2 := Lib.hid hc2
  unfold maxLen at hm1
  obtain ⟨n, hn⟩ : ∃ n, ts.length = n := ⟨_, rfl⟩
  rw [hn] at HC1 HC2 hm1 ⊢
  have HN := Lib.hid hn
  clear h1 h2 hc1 hc2 hn
  go_enter Tryd.func11, Tryd.ntmps11
  go_wp2_with fail
  go_loopw [14] (fun vi wr => ∃ k : Nat, vi = .int .i64 k ∧ k ≤ n ∧ Hid (Below w.heap.size w wr)) (fun vi _ => n - (intOf vi).toNat)
  case atStart => exact ⟨0, rfl, by omega, Lib.hid (Below.refl _ _)⟩
  case round =>
    obtain ⟨k, rfl, hk, HB⟩ := hrel
    by_cases hlt : k < n
    · obtain ⟨g, hg, hglt, hcg⟩ := HC1.out (by omega)
      obtain ⟨g', hg', hglt', hcg'⟩ := HC2.out (by omega)
      subst hg hg'
      have hkl : k < ts.length := by rw [HN.out]; exact hlt
      obtain ⟨t, ht⟩ : ∃ t, t = ts[k] := ⟨_, rfl⟩
      have e0 := fun j (hj : j < 6) => ((HB.out.cell (p := ⟨g, k * 6 + j, none⟩) hglt).trans (hcg (k * 6 + j) (by omega))).trans (flat_get tokL (fun _ => rfl) ts k j hkl hj)
      have e0' := fun j (hj : j < 6) => ((HB.out.cell (p := ⟨g', k * 6 + j, none⟩) hglt').trans (hcg' (k * 6 + j) (by omega))).trans (flat_get rtokL (fun _ => rfl) ts k j hkl hj)
      rw [← ht] at e0 e0'
      have c0 : wr.cell? ⟨g, k * 6, none⟩ = some (.int .i64 t.kind) := e0 0 (by omega)
      have c1 : wr.cell? ⟨g, k * 6 + 1, none⟩ = some (.string (B t.text)) := e0 1 (by omega)
      have c2 : wr.cell? ⟨g, k * 6 + 2, none⟩ = some (.int .i64 t.at_) := e0 2 (by omega)
      have c3 : wr.cell? ⟨g, k * 6 + 3, none⟩ = some (.int .u64 t.value) := e0 3 (by omega)
      have c4 : wr.cell? ⟨g, k * 6 + 4, none⟩ = some (.bool t.uns) := e0 4 (by omega)
      have c5 : wr.cell? ⟨g, k * 6 + 5, none⟩ = some (.bool t.long) := e0 5 (by omega)
      have d0 : wr.cell? ⟨g', k * 6, none⟩ = some (.int .i64 t.kind) := e0' 0 (by omega)
      have d1 : wr.cell? ⟨g', k * 6 + 1, none⟩ = some (.int .i64 t.at_) := e0' 1 (by omega)
      have d2 : wr.cell? ⟨g', k * 6 + 2, none⟩ = some (.string (B t.text)) := e0' 2 (by omega)
      have d3 : wr.cell? ⟨g', k * 6 + 3, none⟩ = some (.int .u64 t.value) := e0' 3 (by omega)
      have d4 : wr.cell? ⟨g', k * 6 + 4, none⟩ = some (.bool t.uns) := e0' 4 (by omega)
      have d5 : wr.cell? ⟨g', k * 6 + 5, none⟩ = some (.bool t.long) := e0' 5 (by omega)
      have hwz : w.heap.size ≤ wr.heap.size := HB.out.size
      have hgw : g < wr.heap.size := by omega
      have hgw' : g' < wr.heap.size := by omega
      clear e0 e0' hcg hcg' ht
      go_wp2_with fail
      go_quiet (fail)
      go_wp2_with fail
      go_roundw
      case rel => exact ⟨k + 1, by go_num, by omega, Lib.hid (below_drewN (HB.out.alloc hwz _) _)⟩
      case measure => simp [intOf]; omega
    · go_wp2_with fail
      go_ret
      exact ⟨rfl, HB.out⟩

theorem same_nil (w : World) : Calls Tryd.prog 11 #[.slice none 0 0, .slice none 0 0] w fun e w' => e = .returned (.bool true) ∧ Below w.heap.size w w' :=
  same_any _ _ [] w (sixAt_own (World.ownsRow_nil w 0 0 6)) (sixAt_own (World.ownsRow_nil w 0 0 6))

set_option maxHeartbeats 1000000 in
set_option maxRecDepth 100000 in
theorem lexScans_any (s : ByteArray) (_ : s.size ≤ maxLen) (w : World) (hg : G w) :
    Calls Tryd.prog 3 #[.string s] w fun e w' => e = .returned (.bool true) ∧ Below w.heap.size w w' := by
  have C0 := Lib.hid (fit_any w hg)
  by_cases hbig : 20000 < s.size
  · have hb1 : (20000 : Int) < (s.size : Int) := by omega
    clear hbig hg
    go_enter Tryd.func3, Tryd.ntmps3
    go_wp2_with fail
    refine C0.out.mono ?_
    rintro e w1 ⟨rfl, hb⟩
    have HB1 := Lib.hid hb
    clear hb
    go_wp2_with fail
    go_ret
    exact ⟨rfl, HB1.out⟩
  · have hs : s.size ≤ 1048576 := by omega
    have hb1 : (s.size : Int) ≤ 20000 := by omega
    have C1 := Lib.hid (fun w hg => scan_any s hs w hg)
    have C2 := Lib.hid (fun w => rscan_any s hs w)
    have HG := Lib.hid hg
    clear hg hbig hs
    go_enter Tryd.func3, Tryd.ntmps3
    go_wp2_with fail
    refine C0.out.mono ?_
    rintro e w1 ⟨rfl, hb⟩
    have HB1 := Lib.hid hb
    clear hb
    go_wp2_with fail
    refine (C1.out _ (HG.out.below HB1.out)).mono ?_
    rintro e w2 ⟨hr, hb⟩
    have HB2 := Lib.hid (HB1.out.trans (hb.mono HB1.out.size))
    clear hb
    have hz2 : w.heap.size ≤ w2.heap.size := HB2.out.size
    cases hsc : scanM s.data.toList with
    | size =>
      rw [hsc] at hr
      obtain rfl := hr
      have HSC := Lib.hid hsc
      clear hsc
      go_wp2_with fail
      refine (C2.out _).mono ?_
      rintro e w3 ⟨hr, hb⟩
      rw [HSC.out] at hr
      obtain rfl := hr
      have c0 : w3.cell? ⟨w2.heap.size, 0, none⟩ = some (.int .i64 2) := by rw [hb.cell (p := ⟨w2.heap.size, 0, none⟩) (by simp)]; simp
      have c1 : w3.cell? ⟨w2.heap.size, 1, none⟩ = some (.int .i64 16384) := by rw [hb.cell (p := ⟨w2.heap.size, 1, none⟩) (by simp)]; simp
      have hz3 : w2.heap.size < w3.heap.size := by have := hb.size; simp at this; omega
      have HB3 := Lib.hid ((HB2.out.alloc hz2 _).trans (hb.mono (by simp; omega)))
      clear hb
      go_wp2_with (go_at_call 11; (with_reducible refine (same_nil _).mono ?_); rintro e w4 ⟨rfl, hb4⟩; have HB4 := Lib.hid hb4; clear hb4)
      go_ret
      exact ⟨rfl, (HB3.out.alloc (by omega) _).trans (HB4.out.mono (by simp; omega))⟩
    | lex a =>
      rw [hsc] at hr
      obtain rfl := hr
      have HSC := Lib.hid hsc
      clear hsc
      go_wp2_with fail
      refine (C2.out _).mono ?_
      rintro e w3 ⟨hr, hb⟩
      rw [HSC.out] at hr
      obtain rfl := hr
      have c0 : w3.cell? ⟨w2.heap.size, 0, none⟩ = some (.int .i64 10) := by rw [hb.cell (p := ⟨w2.heap.size, 0, none⟩) (by simp)]; simp
      have c1 : w3.cell? ⟨w2.heap.size, 1, none⟩ = some (.int .i64 a) := by rw [hb.cell (p := ⟨w2.heap.size, 1, none⟩) (by simp)]; simp
      have hz3 : w2.heap.size < w3.heap.size := by have := hb.size; simp at this; omega
      have HB3 := Lib.hid ((HB2.out.alloc hz2 _).trans (hb.mono (by simp; omega)))
      clear hb
      go_wp2_with (go_at_call 11; (with_reducible refine (same_nil _).mono ?_); rintro e w4 ⟨rfl, hb4⟩; have HB4 := Lib.hid hb4; clear hb4)
      go_ret
      exact ⟨rfl, (HB3.out.alloc (by omega) _).trans (HB4.out.mono (by simp; omega))⟩
    | ok ts =>
      rw [hsc] at hr
      obtain ⟨v, rfl, hown⟩ := hr
      have HSC := Lib.hid hsc
      have HV := Lib.hid (sixAt_own hown)
      clear hsc hown
      go_wp2_with fail
      refine (C2.out _).mono ?_
      rintro e w3 ⟨hr, hb⟩
      rw [HSC.out] at hr
      obtain ⟨v', rfl, hown⟩ := hr
      have c0 : w3.cell? ⟨w2.heap.size, 0, none⟩ = some (.int .i64 0) := by rw [hb.cell (p := ⟨w2.heap.size, 0, none⟩) (by simp)]; simp
      have c1 : w3.cell? ⟨w2.heap.size, 1, none⟩ = some (.int .i64 0) := by rw [hb.cell (p := ⟨w2.heap.size, 1, none⟩) (by simp)]; simp
      have hz3 : w2.heap.size < w3.heap.size := by have := hb.size; simp at this; omega
      have HB3 := Lib.hid ((HB2.out.alloc hz2 _).trans (hb.mono (by simp; omega)))
      have HV2 := Lib.hid ((HV.out.below ((Below.refl _ _).alloc (Nat.le_refl _) (.cells #[.int .i64 0, .int .i64 0] 26))).below hb)
      have HW2 := Lib.hid (sixAt_own hown)
      clear hb hown
      have CS := Lib.hid (fun (fb : Obj) => same_any v v' ts (w3.alloc fb) (HV2.out.below ((Below.refl _ _).alloc (Nat.le_refl _) fb)) (HW2.out.below ((Below.refl _ _).alloc (Nat.le_refl _) fb)))
      go_wp2_with (go_at_call 11; (with_reducible refine (CS.out _).mono ?_); rintro e w4 ⟨rfl, hb4⟩; have HB4 := Lib.hid hb4; clear hb4)
      go_ret
      exact ⟨rfl, (HB3.out.alloc (by omega) _).trans (HB4.out.mono (by simp; omega))⟩
end Go.Proofs.YtamimaoaafapbaaDoor
