import Derived.Test.YtoajcggiccfaiaaDoorCtC
namespace Go.Proofs.YtoajcggiccfaiaaDoor
open Go Go.RowKit

set_option maxHeartbeats 1000000 in
theorem ptrTo_any (t : Ty) (el : Option Addr) (w : World) (lo : Nat) (hlo : lo ≤ w.heap.size) (he : ElAt w lo w.heap.size t el) :
    Calls Tryd.prog 23 #[tyV t el] w fun e w' => ∃ el', e = .returned (tyV (.ptr t) el') ∧ ElAt w' lo w'.heap.size (.ptr t) el' ∧ Below w.heap.size w w' := by
  have HE := Lib.hid he
  clear he
  unfold tyV
  go_enter Tryd.func23, Tryd.ntmps23
  go_wp2_with fail
  refine (own_any t el _).mono ?_
  rintro e w1 ⟨rfl, hb⟩
  obtain ⟨⟨k0, k1, k2, k3, k4, k5, k6, k7, k8⟩, ⟨f0, f1, f2, f3, f4, f5, f6, f7, f8⟩, ⟨r0, r1, r2, r3, r4, r5, r6, r7, r8⟩, ⟨g0, g1, g2, g3, g4, g5, g6, g7, g8⟩, hz⟩ := box2 hb
  simp only [Nat.zero_add] at k1 k2 k3 k4 k5 k6 k7 k8 r1 r2 r3 r4 r5 r6 r7 r8
  have hbw : Below w.heap.size w w1 := (((Below.refl _ _).alloc (Nat.le_refl _) _).alloc (by simp) _).trans (hb.mono (by simp; omega))
  have HB := Lib.hid hbw
  clear hb hbw
  unfold tyV
  go_wp2_with fail
  have hne : w.heap.size + 1 ≠ w1.heap.size := by omega
  have hE := HE.out.below HB.out (Nat.le_refl _)
  have hbw := HB.out
  refine bodyPost_ret (v := tyV (.ptr t) (some ⟨w1.heap.size, 0, none⟩)) ?_ rfl ⟨some ⟨w1.heap.size, 0, none⟩, rfl, ⟨w1.heap.size, el, rfl, by omega, by simp, cells9_at _ _ (by simp) _ _ _, ?_⟩, ?_⟩
  · rw [tyV_ptr]; simp [results, Tryd.results23, go_sem, r0, r1, r2, r3, r4, r5, r6, r7, r8, hz]
  · refine ElAt.mono (hi := w.heap.size) (Nat.le_refl _) (by simp; omega) ?_
    ((repeat (first | (with_reducible exact hE) | (with_reducible apply ElAt.set_hi) | (with_reducible apply ElAt.alloc))) <;> first | omega | (simp <;> omega))
  · ((repeat (first | (with_reducible exact hbw) | (with_reducible apply Below.setCell) | (with_reducible apply Below.alloc))) <;> first | omega | (simp <;> omega))

set_option maxHeartbeats 1000000 in
theorem arrayOf_any (t : Ty) (n : Int) (el : Option Addr) (w : World) (lo : Nat) (hlo : lo ≤ w.heap.size) (he : ElAt w lo w.heap.size t el) :
    Calls Tryd.prog 24 #[tyV t el, .int .i64 n] w fun e w' => ∃ el', e = .returned (tyV (.arr t n) el') ∧ ElAt w' lo w'.heap.size (.arr t n) el' ∧ Below w.heap.size w w' := by
  have HE := Lib.hid he
  clear he
  unfold tyV
  go_enter Tryd.func24, Tryd.ntmps24
  go_wp2_with fail
  refine (own_any t el _).mono ?_
  rintro e w1 ⟨rfl, hb⟩
  obtain ⟨⟨k0, k1, k2, k3, k4, k5, k6, k7, k8⟩, ⟨f0, f1, f2, f3, f4, f5, f6, f7, f8⟩, ⟨r0, r1, r2, r3, r4, r5, r6, r7, r8⟩, ⟨g0, g1, g2, g3, g4, g5, g6, g7, g8⟩, hz⟩ := box2 hb
  simp only [Nat.zero_add] at k1 k2 k3 k4 k5 k6 k7 k8 r1 r2 r3 r4 r5 r6 r7 r8
  have hbw : Below w.heap.size w w1 := (((Below.refl _ _).alloc (Nat.le_refl _) _).alloc (by simp) _).trans (hb.mono (by simp; omega))
  have HB := Lib.hid hbw
  clear hb hbw
  unfold tyV
  go_wp2_with fail
  have hne : w.heap.size + 1 ≠ w1.heap.size := by omega
  have hE := HE.out.below HB.out (Nat.le_refl _)
  have hbw := HB.out
  refine bodyPost_ret (v := tyV (.arr t n) (some ⟨w1.heap.size, 0, none⟩)) ?_ rfl ⟨some ⟨w1.heap.size, 0, none⟩, rfl, ⟨w1.heap.size, el, rfl, by omega, by simp, cells9_at _ _ (by simp) _ _ _, ?_⟩, ?_⟩
  · rw [tyV_arr]; simp [results, Tryd.results24, go_sem, r0, r1, r2, r3, r4, r5, r6, r7, r8, hz]
  · refine ElAt.mono (hi := w.heap.size) (Nat.le_refl _) (by simp; omega) ?_
    ((repeat (first | (with_reducible exact hE) | (with_reducible apply ElAt.set_hi) | (with_reducible apply ElAt.alloc))) <;> first | omega | (simp <;> omega))
  · ((repeat (first | (with_reducible exact hbw) | (with_reducible apply Below.setCell) | (with_reducible apply Below.alloc))) <;> first | omega | (simp <;> omega))
end Go.Proofs.YtoajcggiccfaiaaDoor
