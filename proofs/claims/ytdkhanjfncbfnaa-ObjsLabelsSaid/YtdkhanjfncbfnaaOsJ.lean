import Derived.Test.YtdkhanjfncbfnaaOsI
import Derived.Laws.MakeOwn
import Derived.Laws.IdiomCopy
import Derived.Laws.Cover3
namespace Go.Proofs.Ytdkhanjfncbfnaa
open Go Go.RowKit
set_option linter.unusedVariables false
set_option linter.unusedSimpArgs false

theorem infoB : (Try.prog.info? 4).map (fun i => (i.zero, i.size, i.bytes)) = some (some (.bool false), 1, 1) := by kernel_rfl
def zeroCell : Value := .agg #[.int .u8 0, .int .u8 0, .int .i64 0, .int .i64 0, .int .i64 0]
theorem infoC : (Try.prog.info? 121).map (fun i => (i.zero, i.size, i.bytes)) = some (some zeroCell, 5, 32) := by kernel_rfl
theorem make_bools (n : Nat) (hn : n ≤ 1000000000) (w : World) : (Instr.makeSlice 28 (.int .i64 n) (.int .i64 n)).run Try.prog w = .ok (.slice (some ⟨w.heap.size, 0, none⟩) n n) (w.alloc (.cells (madeCells #[.bool false] n) 4)) := by
  obtain ⟨i, h1, h2, h3, h4⟩ := info_parts infoB
  have := run_make (P := Try.prog) w 28 4 i (.bool false) Try.underlying28 h1 h2 .i64 .i64 n n (by omega) (by omega) (by rw [h4]; omega) (by omega)
  rw [h3] at this
  simpa [Value.cells] using this
theorem make_cells (n : Nat) (hn : n ≤ 1000000000) (w : World) : (Instr.makeSlice 100 (.int .i64 n) (.int .i64 n)).run Try.prog w = .ok (.slice (some ⟨w.heap.size, 0, none⟩) n n) (w.alloc (.cells (madeCells #[.int .u8 0, .int .u8 0, .int .i64 0, .int .i64 0, .int .i64 0] (n * 5)) 121)) := by
  obtain ⟨i, h1, h2, h3, h4⟩ := info_parts infoC
  have := run_make (P := Try.prog) w 100 121 i zeroCell Try.underlying100 h1 h2 .i64 .i64 n n (by omega) (by omega) (by rw [h4]; omega) (by omega)
  rw [h3] at this
  simpa [zeroCell, Value.cells] using this

theorem map_eq (w : World) (m : Option Nat) : (binOp .eql 89 (.map m) (.map none)).run Try.prog w = .ok (.bool m.isNone) w := by
  simp only [binOp]
  simp [run_equal_map_nil w _ _ _ m Try.underlying89]
/-- A world with a memory: n objects made so far, the entries es. -/
structure MemAt (w : World) (mb pb n : Nat) (es : Array MapEntry) (clk : Nat) : Prop where
  c0 : w.cell? ⟨mb, 0, none⟩ = some (.int .i64 n)
  c1 : w.cell? ⟨mb, 1, none⟩ = some (.map (some pb))
  f0 : w.frozen? ⟨mb, 0, none⟩ = false
  hb : w.heap[pb]? = some (.map es clk)
  ne : pb ≠ mb

end Go.Proofs.Ytdkhanjfncbfnaa
