import Derived.Test.YtbflijjkdndefaaArD
namespace Go.Proofs.Ytbflijjkdndefaa
open Go Go.RowKit
set_option linter.unusedVariables false
set_option linter.unusedSimpArgs false

theorem mask_range (n : Int) (m : Nat) (h : m < 2 ^ 63) : 0 ≤ bits .and .i64 n (m : Int) ∧ bits .and .i64 n (m : Int) ≤ m := by
  have e : (BitVec.ofInt 64 (m : Int)).toNat = m := by
    rw [BitVec.ofInt_natCast, BitVec.toNat_ofNat]; omega
  have h1 : (BitVec.ofInt 64 n &&& BitVec.ofInt 64 (m : Int)).toNat ≤ m := by
    rw [BitVec.toNat_and, e]; exact Nat.and_le_right
  have h2 : bits .and .i64 n (m : Int) = IntKind.i64.wrap ((BitVec.ofInt 64 n &&& BitVec.ofInt 64 (m : Int)).toNat : Int) := rfl
  rw [h2, wi64, w64]
  omega

/-- The size that Type gives. -/
def tySz (n : Int) : Nat := if bits .and .i64 n 3 = 0 then 1 else if bits .and .i64 n 3 = 1 then 2 else if bits .and .i64 n 3 = 2 then 4 else 8
def tySg (n : Int) : Bool := bits .and .i64 n 4 == 0
theorem tySz_ok (n : Int) : szOk (tySz n) := by
  unfold tySz szOk
  split
  · simp
  · split
    · simp
    · split <;> simp
def TypeIs (sz : Nat) (sg : Bool) (w : World) (e : Ending) (w' : World) : Prop := e = .returned (tV sz sg) ∧ Below w.heap.size w w'

set_option maxHeartbeats 1000000 in
theorem type_any (n : Int) (w : World) : Calls Try.prog 8 #[.int .i64 n] w (TypeIs (tySz n) (tySg n) w) := by
  obtain ⟨h0, h1⟩ := mask_range n 3 (by decide)
  have e3 : bits .and .i64 n 3 = 0 ∨ bits .and .i64 n 3 = 1 ∨ bits .and .i64 n 3 = 2 ∨ bits .and .i64 n 3 = 3 := by
    change 0 ≤ bits .and .i64 n 3 at h0
    change bits .and .i64 n 3 ≤ 3 at h1
    omega
  have hsg : tySg n = (bits .and .i64 n 4 == 0) := rfl
  have HSG := Lib.hid hsg
  clear h0 h1 hsg
  rcases e3 with e3 | e3 | e3 | e3
  · have HZ := Lib.hid (show tySz n = 1 by unfold tySz; rw [e3]; rfl)
    go_enter Try.func8, Try.ntmps8
    go_wp2
    refine bodyPost_ret (v := tV (tySz n) (tySg n)) ?_ rfl ⟨rfl, ?_⟩
    · rw [HZ.out, HSG.out, tV_1]
      simp [results, Try.results8, go_sem]
    · exact (Below.refl _ _).alloc (Nat.le_refl _) _
  · have HZ := Lib.hid (show tySz n = 2 by unfold tySz; rw [e3]; rfl)
    go_enter Try.func8, Try.ntmps8
    go_wp2
    refine bodyPost_ret (v := tV (tySz n) (tySg n)) ?_ rfl ⟨rfl, ?_⟩
    · rw [HZ.out, HSG.out, tV_2]
      simp [results, Try.results8, go_sem]
    · exact (Below.refl _ _).alloc (Nat.le_refl _) _
  · have HZ := Lib.hid (show tySz n = 4 by unfold tySz; rw [e3]; rfl)
    go_enter Try.func8, Try.ntmps8
    go_wp2
    refine bodyPost_ret (v := tV (tySz n) (tySg n)) ?_ rfl ⟨rfl, ?_⟩
    · rw [HZ.out, HSG.out, tV_4]
      simp [results, Try.results8, go_sem]
    · exact (Below.refl _ _).alloc (Nat.le_refl _) _
  · have HZ := Lib.hid (show tySz n = 8 by unfold tySz; rw [e3]; rfl)
    go_enter Try.func8, Try.ntmps8
    go_wp2
    refine bodyPost_ret (v := tV (tySz n) (tySg n)) ?_ rfl ⟨rfl, ?_⟩
    · rw [HZ.out, HSG.out, tV_8]
      simp [results, Try.results8, go_sem]
    · exact (Below.refl _ _).alloc (Nat.le_refl _) _

set_option maxHeartbeats 1000000 in
theorem type_4 (w : World) : Calls Try.prog 8 #[.int .i64 4] w (TypeIs 1 false w) := by
  have h := type_any 4 w
  rw [show tySz 4 = 1 by decide +kernel, show tySg 4 = false by decide +kernel] at h
  exact h
theorem type_2 (w : World) : Calls Try.prog 8 #[.int .i64 2] w (TypeIs 4 true w) := by
  have h := type_any 2 w
  rw [show tySz 2 = 4 by decide +kernel, show tySg 2 = true by decide +kernel] at h
  exact h

end Go.Proofs.Ytbflijjkdndefaa
