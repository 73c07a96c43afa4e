import Derived.Test.YtamimaoaafapbaaDoorLexN
import Derived.OpenShut
namespace Go.Proofs.YtamimaoaafapbaaDoor
open Go Go.ChangeShapes Go.WideShapes Go.ChangeAt Go.RowKit

theorem i64_and_low (n : Int) (c : Nat) (hc : c < 4) : bits .and .i64 n (c : Int) = (((n % 4).toNat &&& c : Nat) : Int) := by
  have h3 : (BitVec.ofInt 64 (c : Int)).toNat = c := by
    rw [BitVec.toNat_ofInt]; omega
  have hc3 : 3 &&& c = c := by
    have : c = 0 ∨ c = 1 ∨ c = 2 ∨ c = 3 := by omega
    rcases this with rfl | rfl | rfl | rfl <;> decide
  have key : (BitVec.ofInt 64 n &&& BitVec.ofInt 64 (c : Int)).toNat = (n % 4).toNat &&& c := by
    rw [BitVec.toNat_and, h3, BitVec.toNat_ofInt]
    conv => lhs; rw [← hc3, ← Nat.and_assoc]
    rw [show (3 : Nat) = 2 ^ 2 - 1 from rfl, Nat.and_two_pow_sub_one_eq_mod]
    congr 1
    omega
  have hle : (n % 4).toNat &&& c ≤ c := Nat.and_le_right
  show IntKind.i64.wrap ((BitVec.ofInt 64 n &&& BitVec.ofInt 64 (c : Int)).toNat : Nat) = _
  rw [key, IntKind.wrap_i64]
  omega

theorem lexNumbers_any (a : Int) (wf : (Lit.int .u64 a).wf = true) (how : Int) (_ : (Lit.int .i64 how).wf = true) (w : World) (hg : G w) :
    Calls Tryd.prog 7 #[.int .u64 a, .int .i64 how] w fun e w' => e = .returned (.bool true) ∧ Below w.heap.size w w' := by
  have hb := bounds_u64 wf
  obtain ⟨n, rfl⟩ := Int.eq_ofNat_of_zero_le hb.1
  have hn : n < 18446744073709551616 := by omega
  have e1 := i64_and_low how 1 (by omega)
  have e2 := i64_and_low how 2 (by omega)
  have e3 := i64_and_low how 3 (by omega)
  have h4 : how % 4 = 0 ∨ how % 4 = 1 ∨ how % 4 = 2 ∨ how % 4 = 3 := by omega
  rcases h4 with h | h | h | h <;> rw [h] at e1 e2 e3
  · exact numbers0 n hn how e3 e1 e2 w hg
  · exact numbers1 n hn how e3 e1 e2 w hg
  · exact numbers2 n hn how e3 e1 e2 w hg
  · exact numbers3 n hn how e3 e1 e2 w hg
end Go.Proofs.YtamimaoaafapbaaDoor
