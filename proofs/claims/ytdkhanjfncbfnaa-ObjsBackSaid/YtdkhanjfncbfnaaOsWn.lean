import Derived.Test.YtdkhanjfncbfnaaOsWm
namespace Go.Proofs.Ytdkhanjfncbfnaa
open Go Go.RowKit
set_option linter.unusedVariables false
theorem sh0 (n : Int) : Op.shift .shr .i64 n .i64 (IntKind.i64.wrap 0) = pure (.int .i64 n) := by
  rw [show IntKind.i64.wrap 0 = 0 by decide, shift_shr_any _ _ _ _ (by decide)]
  simp [IntKind.bits]
theorem sh8 (n : Int) : Op.shift .shr .i64 n .i64 (IntKind.i64.wrap 8) = pure (.int .i64 (n / 256)) := by
  rw [show IntKind.i64.wrap 8 = 8 by decide, shift_shr_any _ _ _ _ (by decide)]
  simp [IntKind.bits]
theorem sh16 (n : Int) : Op.shift .shr .i64 n .i64 (IntKind.i64.wrap 16) = pure (.int .i64 (n / 65536)) := by
  rw [show IntKind.i64.wrap 16 = 16 by decide, shift_shr_any _ _ _ _ (by decide)]
  simp [IntKind.bits]
theorem sh24 (n : Int) : Op.shift .shr .i64 n .i64 (IntKind.i64.wrap 24) = pure (.int .i64 (n / 16777216)) := by
  rw [show IntKind.i64.wrap 24 = 24 by decide, shift_shr_any _ _ _ _ (by decide)]
  simp [IntKind.bits]
theorem sh32 (n : Int) : Op.shift .shr .i64 n .i64 (IntKind.i64.wrap 32) = pure (.int .i64 (n / 4294967296)) := by
  rw [show IntKind.i64.wrap 32 = 32 by decide, shift_shr_any _ _ _ _ (by decide)]
  simp [IntKind.bits]
theorem sh40 (n : Int) : Op.shift .shr .i64 n .i64 (IntKind.i64.wrap 40) = pure (.int .i64 (n / 1099511627776)) := by
  rw [show IntKind.i64.wrap 40 = 40 by decide, shift_shr_any _ _ _ _ (by decide)]
  simp [IntKind.bits]
theorem sh48 (n : Int) : Op.shift .shr .i64 n .i64 (IntKind.i64.wrap 48) = pure (.int .i64 (n / 281474976710656)) := by
  rw [show IntKind.i64.wrap 48 = 48 by decide, shift_shr_any _ _ _ _ (by decide)]
  simp [IntKind.bits]
theorem sh56 (n : Int) : Op.shift .shr .i64 n .i64 (IntKind.i64.wrap 56) = pure (.int .i64 (n / 72057594037927936)) := by
  rw [show IntKind.i64.wrap 56 = 56 by decide, shift_shr_any _ _ _ _ (by decide)]
  simp [IntKind.bits]
end Go.Proofs.Ytdkhanjfncbfnaa
