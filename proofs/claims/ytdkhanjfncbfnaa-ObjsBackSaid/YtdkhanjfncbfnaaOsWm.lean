import Derived.Test.YtdkhanjfncbfnaaOsU
namespace Go.Proofs.Ytdkhanjfncbfnaa
open Go Go.RowKit
set_option linter.unusedVariables false
set_option linter.unusedSimpArgs false
theorem u64_wrap (x : Int) : IntKind.u64.wrap x = x % 18446744073709551616 := by
  first | rfl | (simp [IntKind.wrap]; done) | (unfold IntKind.wrap; simp)
theorem w1u (n : Int) : wrap64 (IntKind.u64.wrap (IntKind.u64.wrap n * 72057594037927936) / 72057594037927936) = valOf false 1 (n % 256 ^ 1) := by
  unfold valOf wrap64
  rw [u64_wrap, u64_wrap, IntKind.wrap_i64]
  simp
  omega
theorem w2u (n : Int) : wrap64 (IntKind.u64.wrap (IntKind.u64.wrap n * 281474976710656) / 281474976710656) = valOf false 2 (n % 256 ^ 2) := by
  unfold valOf wrap64
  rw [u64_wrap, u64_wrap, IntKind.wrap_i64]
  simp
  omega
theorem w4u (n : Int) : wrap64 (IntKind.u64.wrap (IntKind.u64.wrap n * 4294967296) / 4294967296) = valOf false 4 (n % 256 ^ 4) := by
  unfold valOf wrap64
  rw [u64_wrap, u64_wrap, IntKind.wrap_i64]
  simp
  omega
theorem w1s (n : Int) : wrap64 (n * 72057594037927936) / 72057594037927936 = valOf true 1 (n % 256 ^ 1) := by
  unfold valOf wrap64
  simp
  omega
theorem w2s (n : Int) : wrap64 (n * 281474976710656) / 281474976710656 = valOf true 2 (n % 256 ^ 2) := by
  unfold valOf wrap64
  simp
  omega
theorem w4s (n : Int) : wrap64 (n * 4294967296) / 4294967296 = valOf true 4 (n % 256 ^ 4) := by
  unfold valOf wrap64
  simp
  omega
theorem w8s (n : Int) (h0 : -9223372036854775808 ≤ n) (h1 : n ≤ 9223372036854775807) : n = valOf true 8 (n % 256 ^ 8) := by
  unfold valOf
  simp
  omega
theorem w8u (n : Int) (h0 : -9223372036854775808 ≤ n) (h1 : n ≤ 9223372036854775807) : n = valOf false 8 (n % 256 ^ 8) := by
  unfold valOf
  rw [IntKind.wrap_i64]
  simp
  omega
end Go.Proofs.Ytdkhanjfncbfnaa
