import Derived.Test.YtamimaoaafapbaaDoorLexRG
import Derived.Test.YtamimaoaafapbaaDoorLexRH
namespace Go.Proofs.YtamimaoaafapbaaDoor
open Go Go.RowKit

theorem parts_at (l : List UInt8) (p : Nat) (ts : List Tok) (k : Nat) (hk : k < ts.length) (h : Parts l p (ts.drop k)) :
    (ts[k]).at_ = zAt l p ∧ (ts[k]).at_ + (ts[k]).text.length ≤ l.length ∧ (ts[k]).text = (l.drop (ts[k]).at_).take (ts[k]).text.length ∧
      ((k + 1 = ts.length ∧ (ts[k]).kind = 0 ∧ (ts[k]).at_ = l.length) ∨ (k + 1 < ts.length ∧ (ts[k]).kind ≠ 0 ∧ Parts l ((ts[k]).at_ + (ts[k]).text.length) (ts.drop (k + 1)))) := by
  rw [List.drop_eq_getElem_cons hk] at h
  obtain ⟨h1, h2, h3, h4⟩ := h
  refine ⟨h1, h2, h3, ?_⟩
  rcases h4 with ⟨a, b, c⟩ | ⟨a, b, c⟩
  · refine .inl ⟨?_, b, c⟩
    have := congrArg List.length a
    rw [List.length_drop] at this; simp at this; omega
  · refine .inr ⟨?_, b, c⟩
    have : (ts.drop (k + 1)).length ≠ 0 := fun h => a (List.eq_nil_of_length_eq_zero h)
    rw [List.length_drop] at this; omega

set_option maxHeartbeats 2000000 in
set_option maxRecDepth 100000 in
theorem lexParts_any (s : ByteArray) (_ : s.size ≤ maxLen) (w : World) (hg : G w) :
    Calls Tryd.prog 4 #[.string s] w fun e w' => e = .returned (.bool true) ∧ Below w.heap.size w w' := by
  have C0 := Lib.hid (fit_any w hg)
  have HS := Lib.hid (Lib.size_eq s)
  by_cases hbig : 20000 < s.size
  · have hb1 : (20000 : Int) < (s.size : Int) := by omega
    clear hbig hg
    go_enter Tryd.func4, Tryd.ntmps4
    go_wp2_with fail
    refine C0.out.mono ?_
    rintro e w1 ⟨rfl, hb⟩
    have HB1 := Lib.hid hb
    clear hb
    go_wp2_with fail
    go_ret
    exact ⟨rfl, HB1.out⟩
  · have hs : s.size ≤ 1048576 := by omega
    have hb1 : (s.size : Int) ≤ 20000 := by omega
    have C1 := Lib.hid (fun w hg => scan_any s hs w hg)
    have HG := Lib.hid hg
    clear hg hbig
    go_enter Tryd.func4, Tryd.ntmps4
    go_wp2_with fail
    refine C0.out.mono ?_
    rintro e w1 ⟨rfl, hb⟩
    have HB1 := Lib.hid hb
    clear hb
    go_wp2_with fail
    refine (C1.out _ (HG.out.below HB1.out)).mono ?_
    rintro e w2 ⟨hr, hb⟩
    have HB2 := Lib.hid (HB1.out.trans (hb.mono HB1.out.size))
    clear hb
    have hz2 : w.heap.size ≤ w2.heap.size := HB2.out.size
    cases hsc : scanM s.data.toList with
    | size =>
      rw [hsc] at hr
      obtain rfl := hr
      have hgt : (16384 : Int) ≤ (s.size : Int) := by
        unfold scanM at hsc
        by_cases h : 16384 < s.data.toList.length
        · rw [← HS.out] at h; omega
        · rw [if_neg h] at hsc
          split at hsc <;> cases hsc
      clear hsc
      go_wp2_with fail
      go_ret
      exact ⟨rfl, HB2.out.alloc hz2 _⟩
    | lex a =>
      rw [hsc] at hr
      obtain rfl := hr
      have hle := scan_err _ _ hsc
      rw [← HS.out] at hle
      have hle2 : (a : Int) ≤ (s.size : Int) := by omega
      have ha0 : (0 : Int) ≤ (a : Int) := by omega
      clear hsc
      go_wp2_with fail
      go_ret
      exact ⟨rfl, HB2.out.alloc hz2 _⟩
    | ok ts =>
      rw [hsc] at hr
      obtain ⟨v, rfl, hown⟩ := hr
      obtain ⟨hP, hlim⟩ := scan_parts _ _ hsc
      rw [← HS.out] at hlim
      obtain ⟨ad, cap, rfl, hm1, hc1⟩ := (sixAt_own hown).form
      have HC1 := Lib.hid hc1
      unfold maxLen at hm1
      obtain ⟨n, hn⟩ : ∃ n, ts.length = n := ⟨_, rfl⟩
      have hn1 : 1 ≤ n := by
        rw [← hn]
        cases ts with
        | nil => exact hP.elim
        | cons t r => simp
      rw [hn] at HC1 hm1 ⊢
      have HN := Lib.hid hn
      have HP0 := Lib.hid (show 0 < n → Parts s.data.toList 0 (ts.drop 0) from fun _ => by rw [List.drop_zero]; exact hP)
      clear hsc hown hc1 hn hP C1 C0 HG
      go_wp2_with fail
      go_loopw [5, 40] (fun va vk wr => ∃ k p : Nat, va = .int .i64 p ∧ vk = .int .i64 k ∧ k ≤ n ∧ p ≤ s.size ∧ Hid (k < n → Parts s.data.toList p (ts.drop k)) ∧ Hid (k = n → p = s.size) ∧ Hid (Below w2.heap.size w2 wr)) (fun _ vk _ => n - (intOf vk).toNat)
      case atStart => exact ⟨0, 0, rfl, rfl, by omega, by omega, HP0, Lib.hid (fun h => by omega), Lib.hid ((Below.refl _ _).alloc (Nat.le_refl _) _)⟩
      case round =>
        obtain ⟨k, p, rfl, rfl, hk, hp, HP, HE, HB⟩ := hrel
        clear HP0
        by_cases hlt : k < n
        · obtain ⟨g, hg, hglt, hcg⟩ := HC1.out (by omega)
          subst hg
          have hkl : k < ts.length := by rw [HN.out]; exact hlt
          have hpa := parts_at _ _ _ _ hkl (HP.out hlt)
          have e0 := fun j (hj : j < 6) => ((HB.out.cell (p := ⟨g, k * 6 + j, none⟩) hglt).trans (hcg (k * 6 + j) (by omega))).trans (flat_get tokL (fun _ => rfl) ts k j hkl hj)
          obtain ⟨t, ht⟩ : ∃ t, ts[k] = t := ⟨_, rfl⟩
          rw [ht] at e0 hpa
          obtain ⟨a1, a2, a3, a4⟩ := hpa
          obtain ⟨z, hz⟩ : ∃ z, t.at_ = z := ⟨_, rfl⟩
          obtain ⟨m, hm⟩ : ∃ m, t.text.length = m := ⟨_, rfl⟩
          obtain ⟨tx, htx⟩ : ∃ tx, B t.text = tx := ⟨_, rfl⟩
          rw [hz] at a1 a2 a3 a4
          rw [hm] at a2 a3 a4
          rw [← HS.out] at a2
          have hpz : p ≤ z := by rw [a1]; unfold zAt; omega
          have hts : tx.size = m := by rw [← htx, B_size, hm]
          have hxe : ((s.extract z (z + m)).toList == tx.toList) = true := by
            rw [Lib.extract_toList, ← htx, Lib.toList_data, B_list, show z + m - z = m from by omega, ← a3]; simp
          have hxn : ((s.extract z (z + m)).toList != tx.toList) = false := by rw [bne, hxe]; rfl
          have c0 : wr.cell? ⟨g, k * 6, none⟩ = some (.int .i64 t.kind) := e0 0 (by omega)
          have c1 : wr.cell? ⟨g, k * 6 + 1, none⟩ = some (.string tx) := by rw [← htx]; exact e0 1 (by omega)
          have c2 : wr.cell? ⟨g, k * 6 + 2, none⟩ = some (.int .i64 z) := by rw [← hz]; exact e0 2 (by omega)
          have c3 : wr.cell? ⟨g, k * 6 + 3, none⟩ = some (.int .u64 t.value) := e0 3 (by omega)
          have c4 : wr.cell? ⟨g, k * 6 + 4, none⟩ = some (.bool t.uns) := e0 4 (by omega)
          have c5 : wr.cell? ⟨g, k * 6 + 5, none⟩ = some (.bool t.long) := e0 5 (by omega)
          obtain ⟨a, hsb⟩ := scan_blank s.data.toList p (by rw [← HS.out]; exact hlim)
          have hex : (s.extract p z).data.toList = (s.data.toList.drop p).take (zAt s.data.toList p - p) := by rw [Lib.extract_data, a1]
          rw [← hex] at hsb
          have C2 := Lib.hid (fun w => rscan_any (s.extract p z) (by rw [Lib.size_eq, hex, List.length_take, List.length_drop, ← HS.out]; omega) w)
          rw [hsb] at C2
          have hwz : w2.heap.size ≤ wr.heap.size := HB.out.size
          have hgw : g < wr.heap.size := by omega
          have d1 : decide (z < p) = false := decide_eq_false (by omega)
          have d2 : decide (s.size < z + m) = false := decide_eq_false (by omega)
          have i1 : ¬ (z : Int) < (p : Int) := by omega
          have i2 : ¬ (s.size : Int) < (z : Int) + (m : Int) := by omega
          have i3 : decide ((s.size : Int) < (z : Int) + (m : Int)) = false := decide_eq_false i2
          have HA2 := Lib.hid a2
          have HPX : Hid (((k + 1 = n ∧ t.kind = 0 ∧ z = s.size) ∨ (k + 1 < n ∧ t.kind ≠ 0 ∧ Parts s.data.toList (z + m) (ts.drop (k + 1))))) := by
            rw [HN.out, ← HS.out] at a4
            exact Lib.hid a4
          clear e0 hcg ht a1 a3 a4 hz hm htx hex hsb HP HE
          have hkn : ((t.kind : Int) == 0) = ((k : Int) == (n : Int) - 1) := by
            rcases HPX.out with ⟨x1, x2, _⟩ | ⟨x1, x2, _⟩
            · rw [x2, show ((k : Int) == (n : Int) - 1) = true from by simp; omega]; rfl
            · rw [show ((k : Int) == (n : Int) - 1) = false from by simp; omega]; simpa using x2
          cases hk0 : ((t.kind : Int) == 0)
          all_goals
            rw [hk0] at hkn
            have hkn2 := hkn.symm
            clear hkn
            go_wp2_with fail
            go_quiet (fail)
            go_wp2_with fail
            refine (C2.out _).mono ?_
            rintro e w5 ⟨hr, hb⟩
            obtain ⟨v5, rfl, hown5⟩ := hr
            have h5 : SixAt w5 v5 1 _ := sixAt_own hown5
            obtain ⟨ad5, cap5, rfl, _, _⟩ := h5.form
            have b1 : w5.cell? ⟨wr.heap.size, 1, none⟩ = some (.string tx) := by rw [hb.cell (p := ⟨wr.heap.size, 1, none⟩) (by simp)]; simp
            have b2 : w5.cell? ⟨wr.heap.size, 2, none⟩ = some (.int .i64 z) := by rw [hb.cell (p := ⟨wr.heap.size, 2, none⟩) (by simp)]; simp
            have hz5 : wr.heap.size < w5.heap.size := by have := hb.size; simp at this; omega
            have HB5 := Lib.hid ((below_drewN (HB.out.alloc hwz _) _).trans (hb.mono (by simp; omega)))
            clear hb hown5 h5
            go_wp2_with fail
            go_roundw
            case rel => exact ⟨k + 1, z + m, by go_num, by go_num, by omega, HA2.out, Lib.hid (fun h => by rcases HPX.out with ⟨x1, _, _⟩ | ⟨_, _, x3⟩; exact absurd x1 (by omega); exact x3), Lib.hid (fun h => by have := HA2.out; rcases HPX.out with ⟨_, _, x3⟩ | ⟨x1, _, _⟩ <;> omega), Lib.hid (HB5.out.alloc (by omega) _)⟩
            case measure => simp [intOf]; omega
        · have hps : ((p : Int) == (s.size : Int)) = true := by have := HE.out (by omega); simp; omega
          go_wp2_with fail
          go_ret
          exact ⟨rfl, HB2.out.trans (HB.out.mono hz2)⟩
end Go.Proofs.YtamimaoaafapbaaDoor
