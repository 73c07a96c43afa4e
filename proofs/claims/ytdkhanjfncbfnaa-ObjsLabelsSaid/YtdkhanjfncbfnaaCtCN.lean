import Derived.Test.YtdkhanjfncbfnaaCtCA
import Derived.Deep.AppendLies
namespace Go.Proofs.Ytdkhanjfncbfnaa
open Go Go.RowKit
set_option linter.unusedVariables false
set_option linter.unusedSimpArgs false

theorem cellsT_one (NM : Nat → ByteArray) (TY : Nat → Ty) (EL : Nat → Option Addr) (AT : Nat → Int) (n : Nat) : ∀ u ∈ cellsT NM TY EL AT n, u.oneCell' = true := by
  induction n with
  | zero => intro u hu; cases hu
  | succ n ih =>
    intro u hu
    rw [cellsT, List.mem_append] at hu
    rcases hu with hu | hu
    · exact ih u hu
    · simp only [fldTL, List.mem_cons, List.not_mem_nil, or_false] at hu
      rcases hu with rfl | rfl | rfl | rfl | rfl | rfl | rfl | rfl | rfl | rfl | rfl <;> rfl
/-- The cells of a row that lies there. -/
theorem cellsT_of {w : World} {g n : Nat} {NM : Nat → ByteArray} {TY : Nat → Ty} {EL : Nat → Option Addr} {AT : Nat → Int} (h : GRow w g n NM TY EL AT) :
    ∀ j u, (cellsT NM TY EL AT n)[j]? = some u → w.cell? ⟨g, j, none⟩ = some u := by
  intro j u hj
  have hlt : j < n * 11 := by
    rcases Nat.lt_or_ge j (n * 11) with h1 | h1
    · exact h1
    · rw [List.getElem?_eq_none (by rw [cellsT_len]; exact h1)] at hj; cases hj
  have hk : j / 11 < n := by omega
  have e : j = j / 11 * 11 + j % 11 := by omega
  rw [e] at hj ⊢
  rw [cellsT_at NM TY EL AT n _ _ hk (Nat.mod_lt _ (by omega))] at hj
  obtain ⟨c0, c1, c2, c3, c4, c5, c6, c7, c8, c9, c10⟩ := h _ hk
  have hm : j % 11 = 0 ∨ j % 11 = 1 ∨ j % 11 = 2 ∨ j % 11 = 3 ∨ j % 11 = 4 ∨ j % 11 = 5 ∨ j % 11 = 6 ∨ j % 11 = 7 ∨ j % 11 = 8 ∨ j % 11 = 9 ∨ j % 11 = 10 := by omega
  rcases hm with h1 | h1 | h1 | h1 | h1 | h1 | h1 | h1 | h1 | h1 | h1 <;> (rw [h1] at hj ⊢; rw [← hj]; first | exact c0 | exact c1 | exact c2 | exact c3 | exact c4 | exact c5 | exact c6 | exact c7 | exact c8 | exact c9 | exact c10)

set_option maxHeartbeats 1000000 in
theorem cloneF_nil (w : World) :
    Calls Try.prog 61 #[.slice none 0 0] w fun e w' => e = .returned (.slice none 0 0) ∧ w = w' := by
  have hn := Lib.run_eql_slice_nil (P := Try.prog) w 53 61 none 0 0 0 0 Try.underlying53
  go_enter Try.func61, Try.ntmps61
  go_wp2
  go_ret
  exact ⟨rfl, rfl⟩
def CloneRes (n : Nat) (NM : Nat → ByteArray) (TY : Nat → Ty) (EL : Nat → Option Addr) (AT : Nat → Int) (w : World) (e : Ending) (w' : World) : Prop :=
  ∃ g c, e = .returned (.slice (some ⟨g, 0, none⟩) n c) ∧ w'.ownsRow w.heap.size 61 11 (.slice (some ⟨g, 0, none⟩) n c) n (cellsT NM TY EL AT n) ∧ Below w.heap.size w w'

set_option maxHeartbeats 4000000 in
theorem cloneF_any (g c n : Nat) (hn1 : 1 ≤ n) (hn2 : n ≤ 20) (NM : Nat → ByteArray) (TY : Nat → Ty) (EL : Nat → Option Addr) (AT : Nat → Int) (w : World) (hg : g < w.heap.size) (hr : GRow w g n NM TY EL AT) :
    Calls Try.prog 61 #[.slice (some ⟨g, 0, none⟩) n c] w (CloneRes n NM TY EL AT w) := by
  obtain ⟨i0, hi, hz0, hz1, hz2⟩ := info_parts infoFld
  have HR := Lib.hid hr
  have I1 := Lib.hid hi
  have I2 := Lib.hid hz0
  have I3 := Lib.hid hz1
  have I4 := Lib.hid hz2
  clear hr hi hz0 hz1 hz2
  go_enter Try.func61, Try.ntmps61
  have hown : (w.alloc (.cells #[] 61)).ownsRow w.heap.size 61 11 (.slice (some ⟨w.heap.size, 0, none⟩) 0 0) 0 [] := ⟨rfl, Or.inr ⟨w.heap.size, 0, #[], rfl, Nat.le_refl _, heap_alloc_new w _, Nat.le_refl _, by unfold maxLen; omega, rfl, rfl⟩⟩
  have HO := Lib.hid hown
  clear hown
  have hn := Lib.run_eql_slice_nil (P := Try.prog) w 53 61 (some ⟨g, 0, none⟩) n c 0 0 Try.underlying53
  go_wp2_with (at_builtin; go_must (refine wpList_append_lies _ rfl _ _ 53 rfl w.heap.size 61 i0 fld0 11 104 Try.underlying53 I1.out I2.out I3.out I4.out rfl (by omega) (.slice (some ⟨w.heap.size, 0, none⟩) 0 0) 0 [] rfl HO.out ⟨g, 0, none⟩ n c (cellsT NM TY EL AT n) rfl (cellsT_len _ _ _ _ _) ?c1 (cellsT_one _ _ _ _ _) (by omega) ?c2 ?c3 ?c4 (w.heap.size + 1) ?c5 ?c6))
  case c1 =>
    intro j u hj
    have hadd : (⟨g, 0, none⟩ : Addr).add j = ⟨g, j, none⟩ := by unfold Addr.add; split <;> simp_all
    rw [hadd]
    exact (((Below.refl w.heap.size w).alloc (Nat.le_refl _) _).cell (p := ⟨g, j, none⟩) hg).trans (cellsT_of HR.out j u hj)
  case c2 => unfold maxLen; omega
  case c3 => omega
  case c4 => simp
  case c5 => simp
  case c6 =>
    intro gg cap w2 hown2 hgrow hat hlt
    have hb2 : Below w.heap.size w w2 := ((Below.refl w.heap.size w).alloc (Nat.le_refl _) _).grown hgrow (by simp) (fun k hk => by simp [Value.ownBlock] at hk; omega)
    try simp only [Nat.zero_add, List.nil_append] at hown2
    try simp only [Nat.zero_add]
    have HO2 := Lib.hid hown2
    have HB2 := Lib.hid hb2
    clear hown2 hb2 hgrow hat
    go_wp2_with fail
    go_ret
    exact ⟨gg, cap, rfl, HO2.out, HB2.out⟩

theorem fields_out (tb rb n rc : Nat) (hn : n ≤ 1000000) (a : Option Addr) (SN : Nat → ByteArray) (FA : Nat → Option Addr) (FN FC : Nat → Nat) (SZ AL : Nat → Int) (k : Int) (hk : k < 0 ∨ (n : Int) ≤ k) (w : World) (h : TabN w tb rb n rc a SN FA FN FC SZ AL) :
    Calls Try.prog 44 #[.pointer (some ⟨tb, 0, none⟩), .int .i64 k] w (TupRes (.slice none 0 0) w) := by
  have HR := Lib.hid (record_out tb rb n rc hn a SN FA FN FC SZ AL k hk w h)
  clear h
  go_enter Try.func44, Try.ntmps44
  go_wp2_with (first
    | (go_at_call 41; refine HR.out.mono ?_; rintro e w1 ⟨rfl, hb⟩; have HB := Lib.hid hb; clear hb)
    | (go_at_call 61; refine (cloneF_nil _).mono ?_; rintro e w2 ⟨rfl, rfl⟩))
  refine wp_loop_rounds 1 ?_; rw [rounds_succ]
  go_wp2
  go_ret
  exact ⟨rfl, HB.out.alloc HB.out.size _⟩

/-- A field's type put anew. -/
theorem grow_set {w : World} {g n i : Nat} {NM : Nat → ByteArray} {TY : Nat → Ty} {EL : Nat → Option Addr} {AT : Nat → Int} (h : GRow w g n NM TY EL AT) (hi : i < n) (el : Option Addr) :
    GRow (w.setCells g (i * 11 + 1) [.int .i64 (TY i).kind, .int .i64 (TY i).size, .bool (TY i).sg, .bool (TY i).sc, .pointer el, .int .i64 (TY i).len, .int .i64 (TY i).num, .slice none 0 0, .pointer none]) g n NM TY (fun k => if k = i then el else EL k) AT := by
  have hout : ∀ o, (o < i * 11 + 1 ∨ i * 11 + 10 ≤ o) → (w.setCells g (i * 11 + 1) [.int .i64 (TY i).kind, .int .i64 (TY i).size, .bool (TY i).sg, .bool (TY i).sc, .pointer el, .int .i64 (TY i).len, .int .i64 (TY i).num, .slice none 0 0, .pointer none]).cell? ⟨g, o, none⟩ = w.cell? ⟨g, o, none⟩ := fun o ho =>
    World.cell?_setCells_out g _ _ w ⟨g, o, none⟩ (fun _ _ => by simp; omega)
  intro k hk
  obtain ⟨h0, h1, h2, h3, h4, h5, h6, h7, h8, h9, h10⟩ := h k hk
  by_cases hki : k = i
  · subst hki
    have hin := World.cell?_setCells_in g [.int .i64 (TY k).kind, .int .i64 (TY k).size, .bool (TY k).sg, .bool (TY k).sc, .pointer el, .int .i64 (TY k).len, .int .i64 (TY k).num, .slice none 0 0, .pointer none] (k * 11 + 1) w (fun j hj => by
      have hj9 : j < 9 := hj
      have : j = 0 ∨ j = 1 ∨ j = 2 ∨ j = 3 ∨ j = 4 ∨ j = 5 ∨ j = 6 ∨ j = 7 ∨ j = 8 := by omega
      rcases this with rfl | rfl | rfl | rfl | rfl | rfl | rfl | rfl | rfl
      · rw [show (k * 11 + 1 + 0) = k * 11 + 1 by omega, h1]; rfl
      · rw [show (k * 11 + 1 + 1) = k * 11 + 2 by omega, h2]; rfl
      · rw [show (k * 11 + 1 + 2) = k * 11 + 3 by omega, h3]; rfl
      · rw [show (k * 11 + 1 + 3) = k * 11 + 4 by omega, h4]; rfl
      · rw [show (k * 11 + 1 + 4) = k * 11 + 5 by omega, h5]; rfl
      · rw [show (k * 11 + 1 + 5) = k * 11 + 6 by omega, h6]; rfl
      · rw [show (k * 11 + 1 + 6) = k * 11 + 7 by omega, h7]; rfl
      · rw [show (k * 11 + 1 + 7) = k * 11 + 8 by omega, h8]; rfl
      · rw [show (k * 11 + 1 + 8) = k * 11 + 9 by omega, h9]; rfl)
    simp only [if_true]
    refine ⟨by rw [hout _ (by omega)]; exact h0, ?_, ?_, ?_, ?_, ?_, ?_, ?_, ?_, ?_, by rw [hout _ (by omega)]; exact h10⟩
    · exact hin 0 (by simp)
    · exact hin 1 (by simp)
    · exact hin 2 (by simp)
    · exact hin 3 (by simp)
    · exact hin 4 (by simp)
    · exact hin 5 (by simp)
    · exact hin 6 (by simp)
    · exact hin 7 (by simp)
    · exact hin 8 (by simp)
  · show GCells _ g (k * 11) (NM k) (TY k) (if k = i then el else EL k) (AT k)
    rw [if_neg hki]
    refine ⟨?_, ?_, ?_, ?_, ?_, ?_, ?_, ?_, ?_, ?_, ?_⟩ <;> (rw [hout _ (by omega)]; assumption)

def FieldsRes (n : Nat) (NM : Nat → ByteArray) (TY : Nat → Ty) (AT : Nat → Int) (w : World) (e : Ending) (w' : World) : Prop :=
  ∃ g c EL, e = .returned (.slice (some ⟨g, 0, none⟩) n c) ∧ GRow w' g n NM TY EL AT ∧ (∀ i, i < n → ElAt w' 0 w'.heap.size (TY i) (EL i)) ∧ g < w'.heap.size ∧ Below w.heap.size w w'

set_option maxRecDepth 100000 in
set_option maxHeartbeats 8000000 in
theorem fields_any (tb rb N rc : Nat) (hN : N ≤ 1000000) (a : Option Addr) (SN : Nat → ByteArray) (FA : Nat → Option Addr) (FN FC : Nat → Nat) (SZ AL : Nat → Int) (k : Nat) (hk : k < N) (g n : Nat) (hfa : FA k = some ⟨g, 0, none⟩) (hfn : FN k = n) (hn1 : 1 ≤ n) (hn : n ≤ 20) (NM : Nat → ByteArray) (TY : Nat → Ty) (EL : Nat → Option Addr) (AT : Nat → Int) (w : World) (h : TabN w tb rb N rc a SN FA FN FC SZ AL) (hg : g < w.heap.size) (hr : GRow w g n NM TY EL AT) (hel : ∀ i, i < n → ElAt w 0 w.heap.size (TY i) (EL i)) :
    Calls Try.prog 44 #[.pointer (some ⟨tb, 0, none⟩), .int .i64 k] w (FieldsRes n NM TY AT w) := by
  have k0 := World.block_lt_of_cell? w _ h.t
  simp at k0
  have hrec := record_in tb rb N rc hN a SN FA FN FC SZ AL k hk w h
  rw [hfa, hfn] at hrec
  have HREC := Lib.hid hrec
  have HR := Lib.hid hr
  have HEL := Lib.hid hel
  clear h hr hel hrec hfa hfn
  go_enter Try.func44, Try.ntmps44
  go_wp2_with (first
    | (go_at_call 41
       refine HREC.out.mono ?_
       rintro e w1 ⟨rfl, hb⟩
       have HB1 := Lib.hid hb
       have hb2 : Below w.heap.size w (w1.alloc (.cells #[.string (SN k), .slice (some ⟨g, 0, none⟩) n (FC k), .int .i64 (SZ k), .int .i64 (AL k)] 110)) := hb.alloc hb.size _
       have HB2 := Lib.hid hb2
       clear hb hb2)
    | (go_at_call 61
       (with_reducible refine (cloneF_any g (FC k) n hn1 hn NM TY EL AT _ (Nat.lt_of_lt_of_le hg HB2.out.size) (HR.out.below HB2.out hg)).mono ?_)
       rintro e w2 ⟨g', c', rfl, hown, hb⟩
       have HO := Lib.hid hown
       have HB3 : Hid (Below w.heap.size w w2) := Lib.hid (HB2.out.trans (hb.mono HB2.out.size))
       have HGB : Hid (w.heap.size ≤ g') := Lib.hid (by have h1 := (hown.lt g' rfl).1; have h2 := HB2.out.size; omega)
       clear hown hb))
  have hgl : g' < w2.heap.size := (HO.out.lt g' rfl).2
  have HFZ := Lib.hid (fun j => World.ownsRow.frozenAt HO.out j)
  go_loopw [21] (fun vi wr => ∃ (i : Nat) (EL' : Nat → Option Addr), vi = .int .i64 i ∧ i ≤ n ∧ Below w.heap.size w wr ∧ g' < wr.heap.size ∧ (∀ j, wr.frozen? ⟨g', j, none⟩ = false) ∧ GRow wr g' n NM TY EL' AT ∧ ∀ j, j < n → ElIn wr (fun b => b ≠ g' ∧ b < wr.heap.size) (TY j) (EL' j)) (fun vi _ => n - (intOf vi).toNat)
  case atStart =>
    refine ⟨0, EL, rfl, by omega, HB3.out, hgl, HFZ.out, grow_of_owns HO.out, fun j hj => ?_⟩
    refine ElIn.keep (P := fun b => b < w.heap.size) (fun b hb o => HB3.out.cell (p := ⟨b, o, none⟩) hb) (fun b hb => ?_) (ElIn.of (fun b _ h2 => h2) (HEL.out j hj))
    have h1 := HGB.out
    have h2 := HB3.out.size
    exact ⟨by omega, by omega⟩
  case round =>
    obtain ⟨i, EL', rfl, hi, hb, hgr, hfz, hgrow, hels⟩ := hrel
    have HB4 := Lib.hid hb
    have HGR := Lib.hid hgrow
    have HELS := Lib.hid hels
    have HFZR := Lib.hid hfz
    by_cases hlt : i < n
    · obtain ⟨h0, h1, h2, h3, h4, h5, h6, h7, h8, h9, h10⟩ := hgrow i hlt
      have hFR := fun w h => fresh_any (TY i) (EL' i) w h
      unfold tyV at hFR
      have HFR := Lib.hid hFR
      have hil : (i : Int) < n := by omega
      clear hb hgrow hels hfz hFR
      go_wp2_with (go_at_call 42
                   (with_reducible refine (HFR.out _ (((HELS.out i hlt).elAt.alloc (Nat.le_refl _) _).mono (Nat.le_refl _) (by simp))).mono ?_)
                   rintro e w3 ⟨el1, rfl, hel1, hb3⟩
                   have hb5 : Below wr.heap.size wr w3 := ((Below.refl _ _).alloc (Nat.le_refl _) _).trans (hb3.mono (by simp))
                   have HEL1 := Lib.hid hel1
                   have HB5 := Lib.hid hb5
                   have hg3 : g' < w3.heap.size := Nat.lt_of_lt_of_le hgr hb5.size
                   have hgr3 := HGR.out.below hb5 hgr
                   have HGR3 := Lib.hid hgr3
                   have hfz3 : ∀ j, w3.frozen? ⟨g', j, none⟩ = false := fun j => by rw [hb5.frozen (by exact hgr)]; exact HFZR.out j
                   have HFZ3 := Lib.hid hfz3
                   obtain ⟨_, p1, p2, p3, p4, p5, p6, p7, p8, p9, _⟩ := hgr3 i hlt
                   have q1 := hfz3 (i * 11 + 1)
                   have q2 := hfz3 (i * 11 + 2)
                   have q3 := hfz3 (i * 11 + 3)
                   have q4 := hfz3 (i * 11 + 4)
                   have q5 := hfz3 (i * 11 + 5)
                   have q6 := hfz3 (i * 11 + 6)
                   have q7 := hfz3 (i * 11 + 7)
                   have q8 := hfz3 (i * 11 + 8)
                   have q9 := hfz3 (i * 11 + 9)
                   clear hel1 hb3 hb5 hgr3 hfz3 h0 h1 h2 h3 h4 h5 h6 h7 h8 h9 h10
                   unfold tyV)
      go_roundw
      case rel =>
        have hset := grow_set HGR3.out hlt el1
        refine ⟨i + 1, fun k => if k = i then el1 else EL' k, by go_num, by omega, ?_, by simpa using hg3, ?_, hset, ?_⟩
        · have hbw := HB4.out.trans (HB5.out.mono HB4.out.size)
          have hgg := HGB.out
          ((repeat (first | (with_reducible exact hbw) | (with_reducible apply Below.setCell))) <;> first | omega | (simp <;> omega))
        · intro j
          have := HFZ3.out j
          simpa using this
        · intro j hj
          have hkp : ∀ b, b ≠ g' → ∀ o, (w3.setCells g' (i * 11 + 1) [.int .i64 (TY i).kind, .int .i64 (TY i).size, .bool (TY i).sg, .bool (TY i).sc, .pointer el1, .int .i64 (TY i).len, .int .i64 (TY i).num, .slice none 0 0, .pointer none]).cell? ⟨b, o, none⟩ = w3.cell? ⟨b, o, none⟩ := fun b hb o =>
            World.cell?_setCells_out g' _ _ w3 ⟨b, o, none⟩ (fun h _ => absurd h hb)
          have hsz5 := HB5.out.size
          by_cases hji : j = i
          · subst hji
            simp only [if_true]
            refine ElIn.keep (P := fun b => wr.heap.size ≤ b ∧ b < w3.heap.size) (fun b hb o => hkp b (by omega) o) (fun b hb => ⟨by omega, by simpa using hb.2⟩) (ElIn.of (fun b h1 h2 => ⟨by simp at h1; omega, h2⟩) HEL1.out)
          · simp only [if_neg hji]
            refine (HELS.out j hj).keep (fun b hb o => ?_) (fun b hb => ⟨hb.1, by simp; omega⟩)
            rw [← HB5.out.cell (p := ⟨b, o, none⟩) hb.2]
            exact hkp b hb.1 o
      case measure => simp [intOf]; omega
    · obtain rfl : i = n := by omega
      clear hb hgrow hels hfz
      go_wp2_with fail
      go_ret
      exact ⟨g', c', EL', rfl, HGR.out, fun j hj => (HELS.out j hj).elAt, hgr, HB4.out⟩
end Go.Proofs.Ytdkhanjfncbfnaa
