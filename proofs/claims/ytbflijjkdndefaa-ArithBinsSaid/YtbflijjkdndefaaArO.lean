import Derived.Test.YtbflijjkdndefaaArN
namespace Go.Proofs.Ytbflijjkdndefaa
open Go Go.RowKit
set_option linter.unusedVariables false
set_option linter.unusedSimpArgs false

theorem wrap_toNat (v : BitVec 64) : IntKind.i64.wrap (v.toNat : Int) = v.toInt := by
  rw [wi64, w64, BitVec.toInt_eq_toNat_cond]
  have := v.isLt
  split <;> omega
theorem ofInt_congr (x y : Int) (h : x % 18446744073709551616 = y % 18446744073709551616) : BitVec.ofInt 64 x = BitVec.ofInt 64 y := by
  apply BitVec.eq_of_toNat_eq
  rw [BitVec.toNat_ofInt, BitVec.toNat_ofInt]
  exact congrArg Int.toNat h
theorem ofInt_pow (i : Nat) (hi : i < 64) : BitVec.ofInt 64 (powW i) = 1#64 <<< i := by
  have e : BitVec.ofInt 64 (powW i) = BitVec.ofInt 64 ((2 ^ i : Nat) : Int) := by
    apply ofInt_congr
    unfold powW
    rw [w64, Int.natCast_pow]
    show _ = (2 ^ i : Int) % _
    omega
  rw [e, BitVec.ofInt_natCast]
  apply BitVec.eq_of_toNat_eq
  simp [BitVec.toNat_ofNat, BitVec.toNat_shiftLeft, Nat.shiftLeft_eq]
/-- A bit, as the program reads it. -/
theorem bit_read (a : Int) (i : Nat) (hi : i < 64) : (BitVec.ofInt 64 a).getLsbD i = ((a / 2 ^ i) % 2 == 1) := by
  have e1 : (BitVec.ofInt 64 a).getLsbD i = decide ((BitVec.ofInt 64 a).toNat / 2 ^ i % 2 = 1) := by
    rw [BitVec.getLsbD, Nat.testBit_eq_decide_div_mod_eq]
  rw [e1, BitVec.toNat_ofInt, Bool.eq_iff_iff]
  simp only [decide_eq_true_eq, beq_iff_eq]
  have h0 : 0 ≤ a % 18446744073709551616 := Int.emod_nonneg _ (by decide)
  obtain ⟨m, hm⟩ : ∃ m : Nat, a % 18446744073709551616 = (m : Int) := ⟨(a % 18446744073709551616).toNat, by omega⟩
  rw [show ((2 ^ 64 : Nat) : Int) = 18446744073709551616 from rfl, hm, Int.toNat_natCast]
  have hp : ∃ c : Int, (18446744073709551616 : Int) = 2 ^ i * (2 * c) := ⟨2 ^ (63 - i), by
    rw [show (2 : Int) * 2 ^ (63 - i) = 2 ^ (63 - i + 1) from by rw [Int.pow_succ, Int.mul_comm], ← Int.pow_add, show i + (63 - i + 1) = 64 from by omega]; rfl⟩
  obtain ⟨c, hc⟩ := hp
  have ha : a = m + 2 ^ i * (2 * c * (a / 18446744073709551616)) := by
    rw [← Int.mul_assoc, ← hc]; omega
  have hd : a / 2 ^ i = (m : Int) / 2 ^ i + 2 * c * (a / 18446744073709551616) := by
    conv => lhs; rw [ha]
    rw [Int.add_mul_ediv_left _ _ (by have := pow2_pos i; omega)]
  have hmm : ((m / 2 ^ i : Nat) : Int) = (m : Int) / 2 ^ i := by rw [Int.natCast_ediv, Int.natCast_pow]; rfl
  rw [hd, ← hmm, Int.mul_assoc]
  omega

/-- So many bits of the result, as a number. -/
def bitV (f : Bool → Bool → Bool) (a b : Int) (i : Nat) : Int := (bitsF f (BitVec.ofInt 64 a) (BitVec.ofInt 64 b) i).toInt
theorem bitV_on (f : Bool → Bool → Bool) (a b : Int) (i : Nat) (hi : i < 64) (h : f ((a / 2 ^ i) % 2 == 1) ((b / 2 ^ i) % 2 == 1) = true) : bits .or .i64 (bitV f a b i) (powW i) = bitV f a b (i + 1) := by
  have e : bits .or .i64 (bitV f a b i) (powW i) = IntKind.i64.wrap ((BitVec.ofInt 64 (bitV f a b i) ||| BitVec.ofInt 64 (powW i)).toNat : Int) := rfl
  rw [e, wrap_toNat, ofInt_pow i hi]
  unfold bitV
  rw [BitVec.ofInt_toInt]
  conv => rhs; unfold bitsF
  rw [bit_read a i hi, bit_read b i hi, if_pos h]
theorem bitV_off (f : Bool → Bool → Bool) (a b : Int) (i : Nat) (hi : i < 64) (h : f ((a / 2 ^ i) % 2 == 1) ((b / 2 ^ i) % 2 == 1) = false) : bitV f a b i = bitV f a b (i + 1) := by
  unfold bitV
  conv => rhs; unfold bitsF
  rw [bit_read a i hi, bit_read b i hi, if_neg (by rw [h]; decide)]
theorem bits_def (op : BinOp) (f : BitVec 64 → BitVec 64 → BitVec 64) (a b : Int) (h : bits op .i64 a b = IntKind.i64.wrap ((f (BitVec.ofInt 64 a) (BitVec.ofInt 64 b)).toNat : Int)) : bits op .i64 a b = (f (BitVec.ofInt 64 a) (BitVec.ofInt 64 b)).toInt := by
  rw [h, wrap_toNat]
theorem bitV_and (a b : Int) : bitV (fun x y => x && y) a b 64 = bits .and .i64 a b := by unfold bitV; rw [bits_and]; exact (bits_def .and (fun x y => x &&& y) a b rfl).symm
theorem bitV_or (a b : Int) : bitV (fun x y => x || y) a b 64 = bits .or .i64 a b := by unfold bitV; rw [bits_or]; exact (bits_def .or (fun x y => x ||| y) a b rfl).symm
theorem bitV_xor (a b : Int) : bitV (fun x y => x ^^ y) a b 64 = bits .xor .i64 a b := by unfold bitV; rw [bits_xor]; exact (bits_def .xor (fun x y => x ^^^ y) a b rfl).symm

set_option maxHeartbeats 4000000 in
theorem rbits_and (a b : Int) (w : World) : Calls Try.prog 20 #[.string ⟨#[38]⟩, .int .i64 a, .int .i64 b] w (IntIs .i64 (bits .and .i64 a b) w) := by
  rw [← bitV_and]
  go_enter Try.func20, Try.ntmps20
  go_wp2
  go_loopw [7, 8] (fun x i wr => ∃ k n : Nat, k ≤ 64 ∧ i = .int .i64 k ∧ x = .int .i64 (bitV (fun x y => x && y) a b k) ∧ wr = w.drewN n) (fun _ i _ => 64 - (intOf i).toNat)
  case atStart => exact ⟨0, 0, Nat.zero_le _, rfl, rfl, rfl⟩
  case round =>
    obtain ⟨k, n, hk, rfl, rfl, rfl⟩ := hrel
    by_cases hlt : k < 64
    · have HON := Lib.hid (bitV_on (fun x y => x && y) a b k hlt)
      have HOFF := Lib.hid (bitV_off (fun x y => x && y) a b k hlt)
      obtain ⟨X, HX⟩ : ∃ X, Hid (X = a / 2 ^ k) := ⟨_, Lib.hid rfl⟩
      obtain ⟨Y, HY⟩ : ∃ Y, Hid (Y = b / 2 ^ k) := ⟨_, Lib.hid rfl⟩
      go_wp2
      go_quiet (fail)
      have hx : bits .and .i64 (a / 2 ^ k) 1 = (a / 2 ^ k) % 2 := mask_pow (a / 2 ^ k) 1 (by decide)
      have hy : bits .and .i64 (b / 2 ^ k) 1 = (b / 2 ^ k) % 2 := mask_pow (b / 2 ^ k) 1 (by decide)
      rw [hx, hy]
      clear hx hy
      rcases Int.emod_two_eq (a / 2 ^ k) with hx | hx <;> rcases Int.emod_two_eq (b / 2 ^ k) with hy | hy
      all_goals
        rw [hx, hy] at HON HOFF
        rw [hx, hy]
        have HX2 := Lib.hid hx
        have HY2 := Lib.hid hy
        clear hx hy
        go_wp2
        go_roundw
        case rel =>
          refine ⟨k + 1, n + nq, by omega, by go_num, ?_, by simp [go_sem]⟩
          first
          | (rw [← HON.out rfl]; first | rfl | (unfold powW; simp; done))
          | (rw [← HOFF.out rfl]; done)
        case measure => simp [intOf]; omega
    · obtain rfl : k = 64 := by omega
      go_wp2
      go_ret
      exact ⟨rfl, below_drewN (Below.refl _ _) _⟩

set_option maxHeartbeats 4000000 in
theorem rbits_or (a b : Int) (w : World) : Calls Try.prog 20 #[.string ⟨#[124]⟩, .int .i64 a, .int .i64 b] w (IntIs .i64 (bits .or .i64 a b) w) := by
  rw [← bitV_or]
  go_enter Try.func20, Try.ntmps20
  go_wp2
  go_loopw [7, 8] (fun x i wr => ∃ k n : Nat, k ≤ 64 ∧ i = .int .i64 k ∧ x = .int .i64 (bitV (fun x y => x || y) a b k) ∧ wr = w.drewN n) (fun _ i _ => 64 - (intOf i).toNat)
  case atStart => exact ⟨0, 0, Nat.zero_le _, rfl, rfl, rfl⟩
  case round =>
    obtain ⟨k, n, hk, rfl, rfl, rfl⟩ := hrel
    by_cases hlt : k < 64
    · have HON := Lib.hid (bitV_on (fun x y => x || y) a b k hlt)
      have HOFF := Lib.hid (bitV_off (fun x y => x || y) a b k hlt)
      obtain ⟨X, HX⟩ : ∃ X, Hid (X = a / 2 ^ k) := ⟨_, Lib.hid rfl⟩
      obtain ⟨Y, HY⟩ : ∃ Y, Hid (Y = b / 2 ^ k) := ⟨_, Lib.hid rfl⟩
      go_wp2
      go_quiet (fail)
      have hx : bits .and .i64 (a / 2 ^ k) 1 = (a / 2 ^ k) % 2 := mask_pow (a / 2 ^ k) 1 (by decide)
      have hy : bits .and .i64 (b / 2 ^ k) 1 = (b / 2 ^ k) % 2 := mask_pow (b / 2 ^ k) 1 (by decide)
      rw [hx, hy]
      clear hx hy
      rcases Int.emod_two_eq (a / 2 ^ k) with hx | hx <;> rcases Int.emod_two_eq (b / 2 ^ k) with hy | hy
      all_goals
        rw [hx, hy] at HON HOFF
        rw [hx, hy]
        have HX2 := Lib.hid hx
        have HY2 := Lib.hid hy
        clear hx hy
        go_wp2
        go_roundw
        case rel =>
          refine ⟨k + 1, n + nq, by omega, by go_num, ?_, by simp [go_sem]⟩
          first
          | (rw [← HON.out rfl]; first | rfl | (unfold powW; simp; done))
          | (rw [← HOFF.out rfl]; done)
        case measure => simp [intOf]; omega
    · obtain rfl : k = 64 := by omega
      go_wp2
      go_ret
      exact ⟨rfl, below_drewN (Below.refl _ _) _⟩

set_option maxHeartbeats 4000000 in
theorem rbits_xor (a b : Int) (w : World) : Calls Try.prog 20 #[.string ⟨#[94]⟩, .int .i64 a, .int .i64 b] w (IntIs .i64 (bits .xor .i64 a b) w) := by
  rw [← bitV_xor]
  go_enter Try.func20, Try.ntmps20
  go_wp2
  go_loopw [7, 8] (fun x i wr => ∃ k n : Nat, k ≤ 64 ∧ i = .int .i64 k ∧ x = .int .i64 (bitV (fun x y => x ^^ y) a b k) ∧ wr = w.drewN n) (fun _ i _ => 64 - (intOf i).toNat)
  case atStart => exact ⟨0, 0, Nat.zero_le _, rfl, rfl, rfl⟩
  case round =>
    obtain ⟨k, n, hk, rfl, rfl, rfl⟩ := hrel
    by_cases hlt : k < 64
    · have HON := Lib.hid (bitV_on (fun x y => x ^^ y) a b k hlt)
      have HOFF := Lib.hid (bitV_off (fun x y => x ^^ y) a b k hlt)
      obtain ⟨X, HX⟩ : ∃ X, Hid (X = a / 2 ^ k) := ⟨_, Lib.hid rfl⟩
      obtain ⟨Y, HY⟩ : ∃ Y, Hid (Y = b / 2 ^ k) := ⟨_, Lib.hid rfl⟩
      go_wp2
      go_quiet (fail)
      have hx : bits .and .i64 (a / 2 ^ k) 1 = (a / 2 ^ k) % 2 := mask_pow (a / 2 ^ k) 1 (by decide)
      have hy : bits .and .i64 (b / 2 ^ k) 1 = (b / 2 ^ k) % 2 := mask_pow (b / 2 ^ k) 1 (by decide)
      rw [hx, hy]
      clear hx hy
      rcases Int.emod_two_eq (a / 2 ^ k) with hx | hx <;> rcases Int.emod_two_eq (b / 2 ^ k) with hy | hy
      all_goals
        rw [hx, hy] at HON HOFF
        rw [hx, hy]
        have HX2 := Lib.hid hx
        have HY2 := Lib.hid hy
        clear hx hy
        go_wp2
        go_roundw
        case rel =>
          refine ⟨k + 1, n + nq, by omega, by go_num, ?_, by simp [go_sem]⟩
          first
          | (rw [← HON.out rfl]; first | rfl | (unfold powW; simp; done))
          | (rw [← HOFF.out rfl]; done)
        case measure => simp [intOf]; omega
    · obtain rfl : k = 64 := by omega
      go_wp2
      go_ret
      exact ⟨rfl, below_drewN (Below.refl _ _) _⟩
end Go.Proofs.Ytbflijjkdndefaa
