import Derived.Test.YtbhofebkbfndjaaDoorCtT
namespace Go.Proofs.YtbhofebkbfndjaaDoor
open Go Go.RowKit

theorem i64_and65535 (n : Int) : bits .and .i64 n 65535 = n % 65536 := by
  have h3 : (BitVec.ofInt 64 65535).toNat = 2 ^ 16 - 1 := by decide
  have key : (BitVec.ofInt 64 n &&& BitVec.ofInt 64 65535).toNat = (n % ((2 ^ 64 : Nat) : Int)).toNat % 2 ^ 16 := by
    rw [BitVec.toNat_and, BitVec.toNat_ofInt, h3, Nat.and_two_pow_sub_one_eq_mod]
  show IntKind.i64.wrap ((BitVec.ofInt 64 n &&& BitVec.ofInt 64 65535).toNat : Nat) = n % 65536
  rw [key, IntKind.wrap_i64]
  omega
theorem i64_and255 (n : Int) : bits .and .i64 n 255 = n % 256 := by
  have h3 : (BitVec.ofInt 64 255).toNat = 2 ^ 8 - 1 := by decide
  have key : (BitVec.ofInt 64 n &&& BitVec.ofInt 64 255).toNat = (n % ((2 ^ 64 : Nat) : Int)).toNat % 2 ^ 8 := by
    rw [BitVec.toNat_and, BitVec.toNat_ofInt, h3, Nat.and_two_pow_sub_one_eq_mod]
  show IntKind.i64.wrap ((BitVec.ofInt 64 n &&& BitVec.ofInt 64 255).toNat : Nat) = n % 256
  rw [key, IntKind.wrap_i64]
  omega

theorem up_spec (n a : Int) (h1 : 1 ≤ a) : n ≤ upM n a ∧ upM n a - n < a ∧ upM n a % a = 0 := by
  have hm1 : 0 ≤ n % a := Int.emod_nonneg _ (by omega)
  have hm2 : n % a < a := Int.emod_lt_of_pos _ (by omega)
  unfold upM
  by_cases hz : n % a = 0
  · rw [if_pos hz]; exact ⟨by omega, by omega, hz⟩
  · rw [if_neg hz]
    refine ⟨by omega, by omega, ?_⟩
    have e : n - n % a + a = a * (n / a + 1) := by
      have := Int.emod_add_mul_ediv n a
      rw [Int.mul_add, Int.mul_one]; omega
    rw [e]; exact Int.mul_emod_right _ _

set_option maxRecDepth 100000 in
set_option maxHeartbeats 4000000 in
theorem ctypeNone_any (n a : Int) (w : World) :
    Calls Tryd.prog 4 #[.int .i64 n, .int .i64 a] w (BoolRes true w) := by
  obtain ⟨N, hN, hN0, hN1⟩ : ∃ q, bits .and .i64 n 65535 = q ∧ 0 ≤ q ∧ q ≤ 65535 := ⟨n % 65536, i64_and65535 n, by omega, by omega⟩
  obtain ⟨A, hA, hA0, hA1⟩ : ∃ q, bits .and .i64 a 255 = q ∧ 0 ≤ q ∧ q ≤ 255 := ⟨a % 256, i64_and255 a, by omega, by omega⟩
  obtain ⟨U, hU⟩ : ∃ U, U = upM N (A + 1) := ⟨_, rfl⟩
  obtain ⟨u1, u2, u3⟩ := up_spec N (A + 1) (by omega)
  rw [← hU] at u1 u2 u3
  have HU := Lib.hid hU
  clear hU
  go_enter Tryd.func4, Tryd.ntmps4
  go_wp2_with fail
  refine (fit_any _).mono ?_
  rintro e w1 ⟨rfl, hb1⟩
  have HB1 := Lib.hid hb1
  clear hb1
  go_wp2_with (go_at_call 14; refine (find_nil _ _).mono ?_; rintro e w' ⟨rfl, rfl⟩)
  refine (field_nil _ _ _).mono ?_
  rintro e w2 ⟨rfl, hb2⟩
  have HB2 : Hid (Below w.heap.size w w2) := Lib.hid (HB1.out.trans (hb2.mono HB1.out.size))
  clear hb2
  unfold fld0
  go_wp2_with fail
  have hl2 := HB2.out.size
  refine (voidType_any _).mono ?_
  rintro e w3 ⟨rfl, hb3⟩
  have HB3 : Hid (Below w.heap.size w w3) := Lib.hid ((HB2.out.alloc hl2 _).trans (hb3.mono (by simp; omega)))
  clear hb3 hl2
  rw [tyV_void]
  go_wp2_with fail
  refine (size_void _ _).mono ?_
  rintro e w4 ⟨rfl, hb4⟩
  have HB4 : Hid (Below w.heap.size w w4) := Lib.hid (HB3.out.trans (hb4.mono HB3.out.size))
  clear hb4
  go_wp2_with fail
  refine (voidType_any _).mono ?_
  rintro e w5 ⟨rfl, hb5⟩
  have HB5 : Hid (Below w.heap.size w w5) := Lib.hid (HB4.out.trans (hb5.mono HB4.out.size))
  clear hb5
  rw [tyV_void]
  go_wp2_with fail
  refine (show_void _).mono ?_
  rintro e w6 ⟨rfl, hb6⟩
  have HB6 : Hid (Below w.heap.size w w6) := Lib.hid (HB5.out.trans (hb6.mono HB5.out.size))
  clear hb6
  go_wp2_with (go_at_call 17; refine (up_any N (A + 1) _ hN0 (by omega) (by omega) (by omega)).mono ?_; rintro e w' ⟨rfl, rfl⟩; rw [← HU.out])
  refine (fields_nil _ _).mono ?_
  rintro e w7 ⟨rfl, hb7⟩
  have HB7 : Hid (Below w.heap.size w w7) := Lib.hid (HB6.out.trans (hb7.mono HB6.out.size))
  clear hb7
  go_wp2_with fail
  refine (size_nil _).mono ?_
  rintro e w8 ⟨rfl, hb8⟩
  have HB8 : Hid (Below w.heap.size w w8) := Lib.hid (HB7.out.trans (hb8.mono HB7.out.size))
  clear hb8
  go_wp2_with fail
  refine (align_nil _).mono ?_
  rintro e w9 ⟨rfl, hb9⟩
  have HB9 : Hid (Below w.heap.size w w9) := Lib.hid (HB8.out.trans (hb9.mono HB8.out.size))
  clear hb9
  go_wp2_with fail
  go_ret
  exact ⟨rfl, HB9.out⟩
end Go.Proofs.YtbhofebkbfndjaaDoor
