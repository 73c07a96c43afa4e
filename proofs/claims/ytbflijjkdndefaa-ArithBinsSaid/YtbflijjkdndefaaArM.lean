/- Numbers of the integer types: fitting, bits, halves, shifts: plain mathematics for layer 4 (arith). No Go in sight. -/
import Derived.WalkKit
namespace Go.Proofs.Ytbflijjkdndefaa
open Go

/-- 2^(8 size). -/
def modOf (sz : Nat) : Int := if sz = 1 then 256 else if sz = 2 then 65536 else if sz = 4 then 4294967296 else 18446744073709551616
def szOk (sz : Nat) : Prop := sz = 1 ∨ sz = 2 ∨ sz = 4 ∨ sz = 8
/-- A number as one of an integer type: its lowest bytes, with the type's sign (8 bytes: as they are). -/
def fitZ (sz : Nat) (sg : Bool) (n : Int) : Int := if sg || sz == 8 then (n + modOf sz / 2) % modOf sz - modOf sz / 2 else n % modOf sz

theorem fitZ_lit (n : Int) : fitZ 1 true n = (n + 128) % 256 - 128 ∧ fitZ 1 false n = n % 256 ∧ fitZ 2 true n = (n + 32768) % 65536 - 32768 ∧ fitZ 2 false n = n % 65536 ∧
    fitZ 4 true n = (n + 2147483648) % 4294967296 - 2147483648 ∧ fitZ 4 false n = n % 4294967296 ∧ fitZ 8 true n = (n + 9223372036854775808) % 18446744073709551616 - 9223372036854775808 ∧ fitZ 8 false n = (n + 9223372036854775808) % 18446744073709551616 - 9223372036854775808 := by
  refine ⟨rfl, rfl, rfl, rfl, rfl, rfl, rfl, rfl⟩
theorem fitZ_range {sz : Nat} (h : szOk sz) (sg : Bool) (n : Int) : -9223372036854775808 ≤ fitZ sz sg n ∧ fitZ sz sg n ≤ 9223372036854775807 := by
  obtain ⟨h1, h2, h3, h4, h5, h6, h7, h8⟩ := fitZ_lit n
  rcases h with rfl | rfl | rfl | rfl <;> cases sg <;> omega
/-- Fitting takes away a multiple. -/
theorem fitZ_eq {sz : Nat} (h : szOk sz) (sg : Bool) (n : Int) : ∃ k, fitZ sz sg n = n + modOf sz * k := by
  obtain ⟨h1, h2, h3, h4, h5, h6, h7, h8⟩ := fitZ_lit n
  rcases h with rfl | rfl | rfl | rfl <;> cases sg
  · exact ⟨-(n / 256), by rw [h2, show modOf 1 = 256 from rfl]; omega⟩
  · exact ⟨-((n + 128) / 256), by rw [h1, show modOf 1 = 256 from rfl]; omega⟩
  · exact ⟨-(n / 65536), by rw [h4, show modOf 2 = 65536 from rfl]; omega⟩
  · exact ⟨-((n + 32768) / 65536), by rw [h3, show modOf 2 = 65536 from rfl]; omega⟩
  · exact ⟨-(n / 4294967296), by rw [h6, show modOf 4 = 4294967296 from rfl]; omega⟩
  · exact ⟨-((n + 2147483648) / 4294967296), by rw [h5, show modOf 4 = 4294967296 from rfl]; omega⟩
  · exact ⟨-((n + 9223372036854775808) / 18446744073709551616), by rw [h8, show modOf 8 = 18446744073709551616 from rfl]; omega⟩
  · exact ⟨-((n + 9223372036854775808) / 18446744073709551616), by rw [h7, show modOf 8 = 18446744073709551616 from rfl]; omega⟩
/-- It asks only for the rest. -/
theorem fitZ_add_mul (sz : Nat) (sg : Bool) (n k : Int) : fitZ sz sg (n + modOf sz * k) = fitZ sz sg n := by
  unfold fitZ
  split
  · rw [show n + modOf sz * k + modOf sz / 2 = n + modOf sz / 2 + modOf sz * k from by omega, Int.add_mul_emod_self_left]
  · rw [Int.add_mul_emod_self_left]
theorem fitZ_fit {sz : Nat} (h : szOk sz) (sg sg' : Bool) (n : Int) : fitZ sz sg (fitZ sz sg' n) = fitZ sz sg n := by
  obtain ⟨k, hk⟩ := fitZ_eq h sg' n
  rw [hk, fitZ_add_mul]
theorem modOf_64 {sz : Nat} (h : szOk sz) : ∃ c, (18446744073709551616 : Int) = modOf sz * c := by
  rcases h with rfl | rfl | rfl | rfl
  · exact ⟨72057594037927936, by rfl⟩
  · exact ⟨281474976710656, by rfl⟩
  · exact ⟨4294967296, by rfl⟩
  · exact ⟨1, by rfl⟩
/-- Numbers of 64 bits: what went round. -/
theorem fitZ_wrap {sz : Nat} (h : szOk sz) (sg : Bool) (n k : Int) : fitZ sz sg (n + 18446744073709551616 * k) = fitZ sz sg n := by
  obtain ⟨c, hc⟩ := modOf_64 h
  rw [hc, Int.mul_assoc, fitZ_add_mul]
theorem fitZ_add {sz : Nat} (h : szOk sz) (sg s1 s2 : Bool) (a b : Int) : fitZ sz sg (fitZ sz s1 a + fitZ sz s2 b) = fitZ sz sg (a + b) := by
  obtain ⟨k, hk⟩ := fitZ_eq h s1 a
  obtain ⟨j, hj⟩ := fitZ_eq h s2 b
  rw [hk, hj, show a + modOf sz * k + (b + modOf sz * j) = a + b + modOf sz * (k + j) from by rw [Int.mul_add]; omega, fitZ_add_mul]
theorem fitZ_sub {sz : Nat} (h : szOk sz) (sg s1 s2 : Bool) (a b : Int) : fitZ sz sg (fitZ sz s1 a - fitZ sz s2 b) = fitZ sz sg (a - b) := by
  obtain ⟨k, hk⟩ := fitZ_eq h s1 a
  obtain ⟨j, hj⟩ := fitZ_eq h s2 b
  rw [hk, hj, show a + modOf sz * k - (b + modOf sz * j) = a - b + modOf sz * (k - j) from by rw [Int.mul_sub]; omega, fitZ_add_mul]
theorem fitZ_mul {sz : Nat} (h : szOk sz) (sg s1 s2 : Bool) (a b : Int) : fitZ sz sg (fitZ sz s1 a * fitZ sz s2 b) = fitZ sz sg (a * b) := by
  obtain ⟨k, hk⟩ := fitZ_eq h s1 a
  obtain ⟨j, hj⟩ := fitZ_eq h s2 b
  have e : (a + modOf sz * k) * (b + modOf sz * j) = a * b + modOf sz * (a * j + k * b + k * (modOf sz * j)) := by
    rw [Int.add_mul, Int.mul_add, Int.mul_add, Int.mul_add, Int.mul_add]
    have e1 : a * (modOf sz * j) = modOf sz * (a * j) := by rw [← Int.mul_assoc, Int.mul_comm a, Int.mul_assoc]
    have e2 : modOf sz * k * b = modOf sz * (k * b) := Int.mul_assoc _ _ _
    have e3 : modOf sz * k * (modOf sz * j) = modOf sz * (k * (modOf sz * j)) := Int.mul_assoc _ _ _
    omega
  rw [hk, hj, e, fitZ_add_mul]

/-- A fitted number stays. -/
def isFit (sz : Nat) (sg : Bool) (n : Int) : Prop := fitZ sz sg n = n
theorem isFit_fit {sz : Nat} (h : szOk sz) (sg : Bool) (n : Int) : isFit sz sg (fitZ sz sg n) := fitZ_fit h sg sg n

/-- Quotient and rest give the number back, whatever whole numbers stand for the two. -/
theorem parts_back {sz : Nat} (h : szOk sz) (sg : Bool) (x y q r X Y Q R : Int) (hX : fitZ sz sg X = x) (hY : fitZ sz sg Y = y) (hq : fitZ sz sg Q = q) (hr : fitZ sz sg R = r) (hXY : X = Q * Y + R) :
    fitZ sz sg (fitZ sz sg (q * y) + r) = x := by
  have h1 : fitZ sz sg (q * y) = fitZ sz sg (Q * Y) := by rw [← hq, ← hY, fitZ_mul h]
  rw [h1, ← hr, fitZ_add h, ← hXY]; exact hX
theorem back_sub {sz : Nat} (h : szOk sz) (sg : Bool) (x y : Int) (hx : isFit sz sg x) : fitZ sz sg (fitZ sz sg (x + y) - y) = x := by
  obtain ⟨k, hk⟩ := fitZ_eq h sg (x + y)
  rw [hk, show x + y + modOf sz * k - y = x + modOf sz * k from by omega, fitZ_add_mul]; exact hx

/-- The reference's own fit: the rest by Go's %, then up or down. -/
theorem refFit (n m : Int) (sg : Bool) (hm : m = 256 ∨ m = 65536 ∨ m = 4294967296) :
    (let r := n.tmod m; let r := if r < 0 then r + m else r; if sg = true ∧ m / 2 ≤ r then r - m else r) = if sg then (n + m / 2) % m - m / 2 else n % m := by
  have hpos : 0 < m := by omega
  have ht : (if n.tmod m < 0 then n.tmod m + m else n.tmod m) = n % m := by
    rw [Int.tmod_eq_emod]
    have h3 := Int.emod_nonneg n (show m ≠ 0 by omega)
    have h4 := Int.emod_lt_of_pos n hpos
    have h5 : (m.natAbs : Int) = m := by omega
    split
    · rw [show ((0 : Nat) : Int) = 0 from rfl, Int.sub_zero, if_neg (by omega)]
    · rw [h5, if_pos (by omega)]; omega
  dsimp only
  rw [ht]
  rcases hm with rfl | rfl | rfl <;> cases sg <;> simp <;> (try split) <;> omega

/-- A number's bits, one after the other. -/
def bitsF (f : Bool → Bool → Bool) (A B : BitVec 64) : Nat → BitVec 64
  | 0 => 0#64
  | n + 1 => if f (A.getLsbD n) (B.getLsbD n) then bitsF f A B n ||| (1#64 <<< n) else bitsF f A B n
theorem bitsF_get (f : Bool → Bool → Bool) (A B : BitVec 64) (n : Nat) : n ≤ 64 → ∀ j, (bitsF f A B n).getLsbD j = (decide (j < n) && f (A.getLsbD j) (B.getLsbD j)) := by
  induction n with
  | zero => intro _ j; simp [bitsF]
  | succ n ih =>
    intro hn j
    have h := ih (by omega) j
    have hone : (1#64 <<< n).getLsbD j = decide (j = n) := by
      rw [BitVec.getLsbD_shiftLeft]
      by_cases e : j = n
      · subst e; simp; omega
      · by_cases e2 : j < n
        · simp [e2, e]
        · have : j - n ≠ 0 := by omega
          simp [e2, e, BitVec.getLsbD_one, this]
    unfold bitsF
    by_cases hf : f (A.getLsbD n) (B.getLsbD n) = true
    · rw [if_pos hf, BitVec.getLsbD_or, h, hone]
      by_cases e : j = n
      · subst e; simp [hf]
      · have e1 : decide (j < n + 1) = decide (j < n) := by rw [decide_eq_decide]; omega
        simp [e, e1]
    · rw [if_neg hf, h]
      by_cases e : j = n
      · subst e; simp [Bool.not_eq_true] at hf; simp [hf]
      · have e1 : decide (j < n + 1) = decide (j < n) := by rw [decide_eq_decide]; omega
        rw [e1]
theorem bits_and (A B : BitVec 64) : bitsF (fun x y => x && y) A B 64 = A &&& B := by
  apply BitVec.eq_of_getLsbD_eq
  intro i hi
  rw [bitsF_get _ _ _ 64 (Nat.le_refl _), BitVec.getLsbD_and, decide_eq_true hi, Bool.true_and]
theorem bits_or (A B : BitVec 64) : bitsF (fun x y => x || y) A B 64 = A ||| B := by
  apply BitVec.eq_of_getLsbD_eq
  intro i hi
  rw [bitsF_get _ _ _ 64 (Nat.le_refl _), BitVec.getLsbD_or, decide_eq_true hi, Bool.true_and]
theorem bits_xor (A B : BitVec 64) : bitsF (fun x y => x ^^ y) A B 64 = A ^^^ B := by
  apply BitVec.eq_of_getLsbD_eq
  intro i hi
  rw [bitsF_get _ _ _ 64 (Nat.le_refl _), BitVec.getLsbD_xor, decide_eq_true hi, Bool.true_and]

/-- One half, rounded down, as the reference reckons it. -/
theorem half (a : Int) : (let r := a.tmod 2; let r := if r < 0 then r + 2 else r; (a - r).tdiv 2) = a / 2 := by
  have ht : (if a.tmod 2 < 0 then a.tmod 2 + 2 else a.tmod 2) = a % 2 := by
    rw [Int.tmod_eq_emod]
    split
    · rw [show ((0 : Nat) : Int) = 0 from rfl, Int.sub_zero, if_neg (by omega)]
    · rw [show ((2 : Int).natAbs : Int) = 2 from rfl, if_pos (by omega)]; omega
  dsimp only
  rw [ht, show a - a % 2 = (a / 2) * 2 from by omega, Int.mul_tdiv_cancel _ (by decide)]
theorem half_step (a : Int) (k : Nat) : (a / 2 ^ k) / 2 = a / 2 ^ (k + 1) := by
  have hp : (0 : Int) < 2 ^ k := Int.pow_pos (by decide)
  rw [Int.ediv_ediv, if_neg (fun h => by omega), Int.sub_zero, Int.pow_succ]

/-- To the left and back: the highest bits are gone, with the sign of the type. -/
theorem shl_shr_s (x : Int) (k j : Nat) : ((x * 2 ^ k + 2 ^ k * 2 ^ j) % (2 ^ k * 2 ^ (j + 1)) - 2 ^ k * 2 ^ j) / 2 ^ k = (x + 2 ^ j) % 2 ^ (j + 1) - 2 ^ j := by
  have hp : (0 : Int) < 2 ^ k := Int.pow_pos (by decide)
  rw [show x * 2 ^ k + 2 ^ k * 2 ^ j = 2 ^ k * (x + 2 ^ j) from by rw [Int.mul_add, Int.mul_comm x], Int.mul_emod_mul_of_pos _ _ hp, ← Int.mul_sub]
  exact Int.mul_ediv_cancel_left _ (by omega)
theorem shl_shr_u (x : Int) (k j : Nat) : ((x * 2 ^ k) % (2 ^ k * 2 ^ j)) / 2 ^ k = x % 2 ^ j := by
  have hp : (0 : Int) < 2 ^ k := Int.pow_pos (by decide)
  rw [Int.mul_comm x, Int.mul_emod_mul_of_pos _ _ hp]
  exact Int.mul_ediv_cancel_left _ (by omega)
end Go.Proofs.Ytbflijjkdndefaa
