import Derived.Test.YtoajcggiccfaiaaDoorCtCJ
namespace Go.Proofs.YtoajcggiccfaiaaDoor
open Go Go.RowKit
set_option linter.unusedVariables false
set_option linter.unusedSimpArgs false

section
variable (lb N lc : Nat) (la : Option Addr) (RN : Nat → ByteArray) (RV : Nat → Option Addr × Nat × Nat) (G CT CC : Nat → Nat) (TY : Nat → Nat → Ty) (EL : Nat → Nat → Option Addr)

set_option maxHeartbeats 4000000 in
theorem radd_twice (hN : N ≤ 20) (nm : ByteArray) (vN vT : Value) (hvn : ∃ a n c, vN = .slice a n c) (hvt : ∃ a n c, vT = .slice a n c) (j : Nat) (hj : j < N) (hjn : ((RN j).toList == nm.toList) = true) (hne : ∀ k, k < j → ((RN k).toList == nm.toList) = false) (w : World) (h : RTab w lb N lc la RN RV G CT CC TY EL) :
    Calls Tryd.prog 21 #[.slice la N lc, .agg #[.string nm, vN, vT]] w (TupRes (.tuple #[.slice la N lc, .int .i64 13]) w) := by
  obtain ⟨xa, xn, xc, rfl⟩ := hvn
  obtain ⟨ya, yn, yc, rfl⟩ := hvt
  have hla := h.a (by omega)
  have hlb := h.l (by omega)
  have HT := Lib.hid h.r
  have HN := Lib.hid hne
  have HJ := Lib.hid hjn
  subst hla
  clear h hne hjn
  go_enter Tryd.func21, Tryd.ntmps21
  go_wp2_with fail
  generalize hW : w.alloc (.cells #[.string nm, .slice xa xn xc, .slice ya yn yc] 65) = W
  have hbW : Below w.heap.size w W := by rw [← hW]; exact (Below.refl _ _).alloc (Nat.le_refl _) _
  have hsW : W.heap.size = w.heap.size + 1 := by rw [← hW]; simp
  have b0 : W.cell? ⟨w.heap.size, 0, none⟩ = some (.string nm) := by rw [← hW]; simp
  have HBW := Lib.hid hbW
  have HSW := Lib.hid hsW
  have HB0 := Lib.hid b0
  clear hW hbW hsW b0
  go_loopw [6] (fun vi wr => ∃ k : Nat, vi = .int .i64 k ∧ k ≤ j ∧ Below W.heap.size W wr) (fun vi _ => N - (intOf vi).toNat)
  case atStart => exact ⟨0, rfl, by omega, Below.refl _ _⟩
  case round =>
    obtain ⟨k, rfl, hk, hb⟩ := hrel
    have hb0 : wr.cell? ⟨w.heap.size, 0, none⟩ = some (.string nm) := by rw [hb.cell (by simp [HSW.out])]; exact HB0.out
    have HB := Lib.hid hb
    have hkN : k < N := by omega
    have hkNi : (k : Int) < N := by omega
    have hbw : Below w.heap.size w wr := HBW.out.trans (hb.mono HBW.out.size)
    have HBw := Lib.hid hbw
    obtain ⟨c0, c1, c2⟩ := (HT.out k hkN).same (w' := wr) (fun o => hbw.cell (p := ⟨lb, o, none⟩) hlb)
    clear hb hbw
    by_cases hlt : k < j
    · have he := HN.out k hlt
      go_upto_region 4 with fail
      go_region_held3 (fun w' => w'.cell? ⟨lb, k * 3, none⟩ = some (.string (RN k)) ∧ w'.cell? ⟨w.heap.size, 0, none⟩ = some (.string nm)) (go_keep) (fail)
      go_wp2_with fail
      go_roundw
      case rel => exact ⟨k + 1, by go_num, by omega, HB.out.drew⟩
      case measure => simp [intOf]; omega
    · obtain rfl : j = k := by omega
      have he := HJ.out
      go_upto_region 4 with fail
      go_region_held3 (fun w' => w'.cell? ⟨lb, j * 3, none⟩ = some (.string (RN j)) ∧ w'.cell? ⟨w.heap.size, 0, none⟩ = some (.string nm)) (go_keep) (fail)
      go_wp2_with fail
      go_ret2
      exact ⟨rfl, HBw.out.drew⟩

set_option maxHeartbeats 4000000 in
theorem radd_count (hN : N ≤ 20) (nm : ByteArray) (va ta : Option Addr) (m vc tc : Nat) (hm : m ≤ 1000) (hc : N = 20 ∨ 20 < m) (hne : ∀ k, k < N → ((RN k).toList == nm.toList) = false) (w : World) (h : RTab w lb N lc la RN RV G CT CC TY EL) :
    Calls Tryd.prog 21 #[.slice la N lc, .agg #[.string nm, .slice va m vc, .slice ta m tc]] w (TupRes (.tuple #[.slice la N lc, .int .i64 4]) w) := by
  have hla := h.a
  have hlb := h.l
  have HT := Lib.hid h.r
  have HN := Lib.hid hne
  clear h hne
  have d2 : 20 ≤ N ∨ 20 < m := by omega
  go_enter Tryd.func21, Tryd.ntmps21
  go_wp2_with fail
  generalize hW : w.alloc (.cells #[.string nm, .slice va m vc, .slice ta m tc] 65) = W
  have hbW : Below w.heap.size w W := by rw [← hW]; exact (Below.refl _ _).alloc (Nat.le_refl _) _
  have hsW : W.heap.size = w.heap.size + 1 := by rw [← hW]; simp
  have b0 : W.cell? ⟨w.heap.size, 0, none⟩ = some (.string nm) := by rw [← hW]; simp
  have b2 : W.cell? ⟨w.heap.size, 2, none⟩ = some (.slice ta m tc) := by rw [← hW]; simp
  have HBW := Lib.hid hbW
  have HSW := Lib.hid hsW
  have HB0 := Lib.hid b0
  have HB2 := Lib.hid b2
  clear hW hbW hsW b0 b2
  go_loopw [6] (fun vi wr => ∃ k : Nat, vi = .int .i64 k ∧ k ≤ N ∧ Below W.heap.size W wr) (fun vi _ => N - (intOf vi).toNat)
  case atStart => exact ⟨0, rfl, by omega, Below.refl _ _⟩
  case round =>
    obtain ⟨k, rfl, hk, hb⟩ := hrel
    have hb0 : wr.cell? ⟨w.heap.size, 0, none⟩ = some (.string nm) := by rw [hb.cell (by simp [HSW.out])]; exact HB0.out
    have hb2 : wr.cell? ⟨w.heap.size, 2, none⟩ = some (.slice ta m tc) := by rw [hb.cell (by simp [HSW.out])]; exact HB2.out
    have HB := Lib.hid hb
    have hbw : Below w.heap.size w wr := HBW.out.trans (hb.mono HBW.out.size)
    have HBw := Lib.hid hbw
    by_cases hlt : k < N
    · have hla' := hla (by omega)
      have hlb' := hlb (by omega)
      obtain ⟨c0, c1, c2⟩ := (HT.out k hlt).same (w' := wr) (fun o => hbw.cell (p := ⟨lb, o, none⟩) hlb')
      have he := HN.out k hlt
      have hkNi : (k : Int) < N := by omega
      subst hla'
      clear hb hbw hla hlb
      go_upto_region 4 with fail
      go_region_held3 (fun w' => w'.cell? ⟨lb, k * 3, none⟩ = some (.string (RN k)) ∧ w'.cell? ⟨w.heap.size, 0, none⟩ = some (.string nm)) (go_keep) (fail)
      go_wp2_with fail
      go_roundw
      case rel => exact ⟨k + 1, by go_num, by omega, HB.out.drew⟩
      case measure => simp [intOf]; omega
    · obtain rfl : k = N := by omega
      clear hb hbw hla hlb
      go_wp2_with fail
      all_goals
        go_ret2
        exact ⟨rfl, HBw.out⟩
end
end Go.Proofs.YtoajcggiccfaiaaDoor
