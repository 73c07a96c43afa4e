import Derived.Test.YtdkhanjfncbfnaaOsO
import Derived.Lib.SliceRun
namespace Go.Proofs.Ytdkhanjfncbfnaa
open Go Go.RowKit
set_option linter.unusedVariables false
set_option linter.unusedSimpArgs false

theorem drop_any (mb pb : Nat) (es : Array MapEntry) (clk : Nat) (o : Int) (i : Nat) (v : Value) (hf : Instr.findNow (.int .i64) (.int .i64 o) es.toList 0 = some (some (i, v))) (w : World) (c1 : w.cell? ⟨mb, 1, none⟩ = some (.map (some pb))) (hb : w.heap[pb]? = some (.map es clk)) :
    Calls Try.prog 26 #[.pointer (some ⟨mb, 0, none⟩), .int .i64 o] w fun e w' => e = .returned (.tuple #[]) ∧ w' = mapSet w pb (.map (es.eraseIdxIfInBounds i) clk) := by
  have hd : (Builtin.delete_ #[89, 3] 0 #[.map (some pb), .int .i64 o]).run Try.prog w = .ok (.tuple #[]) (mapSet w pb (.map (es.eraseIdxIfInBounds i) clk)) := by
    simp [Builtin.delete_, run_underlying Try.underlying89, MapKept.run_getObj_map hb, MapKept.run_checkKey (k := .int .i64 o) Try.underlying3 (show MapKept.IsKey (.int .i64) (.int .i64 o) from rfl), MapKept.run_findKey Try.underlying3 hf, Result.andThen, MapKept.run_setObj_map _ hb, mapSet]
  go_enter Try.func26, Try.ntmps26
  go_wp2_with fail
  go_end0
  exact ⟨rfl, rfl⟩

def zeroRow (N : Nat) : List Value := (Builtin.zeroCells #[.int .u8 0, .int .u8 0, .int .i64 0, .int .i64 0, .int .i64 0] N).toList
theorem zeroCellV (w : World) : (zeroValue 121).run Try.prog w = .ok (.agg #[.int .u8 0, .int .u8 0, .int .i64 0, .int .i64 0, .int .i64 0]) w := by kernel_rfl
theorem zeroRow_len (N : Nat) : (zeroRow N).length = N * 5 := by simp [zeroRow, Builtin.zeroCells]
theorem run_clear5 (w : World) (c N : Nat) (hN : 0 < N) (ty : TypeId) (hc : ∀ j, j < N * 5 → (w.cell? ⟨c, 0 + j, none⟩).isSome = true) (hf : ∀ j, j < N * 5 → w.frozen? ⟨c, 0 + j, none⟩ = false) :
    (Builtin.clear_ #[100] ty #[.slice (some ⟨c, 0, none⟩) N N]).run Try.prog w = .ok (.tuple #[]) (w.setCells c 0 (zeroRow N)) := by
  have hst := run_storeCells_cells (P := Try.prog) c 0 (zeroRow N) 0 w (by rw [zeroRow_len]; simpa using hc) (by rw [zeroRow_len]; simpa using hf) (by
    intro v hv
    simp [zeroRow, Builtin.zeroCells] at hv
    obtain ⟨j, hj, rfl⟩ := hv
    have : j % 5 = 0 ∨ j % 5 = 1 ∨ j % 5 = 2 ∨ j % 5 = 3 ∨ j % 5 = 4 := by omega
    rcases this with h | h | h | h | h <;> simp [h, Value.oneCell'])
  obtain ⟨n, rfl⟩ : ∃ n, N = n + 1 := ⟨N - 1, by omega⟩
  simp [Builtin.clear_, run_underlying Try.underlying100, zeroCellV, Result.andThen]
  unfold zeroRow at hst ⊢
  simp only [Value.cells]
  rw [hst]

theorem field_cells (s c N : Nat) (w : World) : (Instr.field 102 (.agg #[.slice (some ⟨s, 0, none⟩) N N, .slice (some ⟨c, 0, none⟩) N N]) 1).run Try.prog w = .ok (.slice (some ⟨c, 0, none⟩) N N) w := by kernel_rfl
set_option maxRecDepth 100000 in
set_option maxHeartbeats 4000000 in
theorem forget_any (mb pb : Nat) (es : Array MapEntry) (clk : Nat) (o : Int) (s c N : Nat) (hN : 0 < N) (L : Nat → Bool) (C : Nat → Cl) (w : World) (h : Ob w mb pb es clk o s c N L C) :
    Calls Try.prog 25 #[.pointer (some ⟨mb, 0, none⟩), .int .i64 o] w fun e w' => e = .returned (.tuple #[]) ∧ Turn c w w' ∧ Ob w' mb pb es clk o s c N L (fun _ => ⟨0, 0, 0, 0, 0⟩) := by
  obtain ⟨i, hf⟩ := h.hf
  unfold objV at hf
  have hl := run_look w pb es clk h.hb o i _ hf false
  have hcell : ∀ j, j < N * 5 → ∃ v, w.cell? ⟨c, 0 + j, none⟩ = some v := fun j hj => by
    obtain ⟨e0, e1, e2, e3, e4⟩ := h.cells (j / 5) (by omega)
    have hj5 : j = j / 5 * 5 + j % 5 := by omega
    rcases (show j % 5 = 0 ∨ j % 5 = 1 ∨ j % 5 = 2 ∨ j % 5 = 3 ∨ j % 5 = 4 by omega) with h5 | h5 | h5 | h5 | h5
    · exact ⟨_, by rw [show 0 + j = 0 + j / 5 * 5 from by omega]; exact e0⟩
    · exact ⟨_, by rw [show 0 + j = 0 + j / 5 * 5 + 1 from by omega]; exact e1⟩
    · exact ⟨_, by rw [show 0 + j = 0 + j / 5 * 5 + 2 from by omega]; exact e2⟩
    · exact ⟨_, by rw [show 0 + j = 0 + j / 5 * 5 + 3 from by omega]; exact e3⟩
    · exact ⟨_, by rw [show 0 + j = 0 + j / 5 * 5 + 4 from by omega]; exact e4⟩
  have hsome : ∀ j, j < N * 5 → (w.cell? ⟨c, 0 + j, none⟩).isSome = true := fun j hj => by
    obtain ⟨v, hv⟩ := hcell j hj
    rw [hv]; rfl
  have hcl := run_clear5 w c N hN 0 hsome (fun j _ => h.fz _)
  have hT : Turn c w (w.setCells c 0 (zeroRow N)) := Turn.setCells _ _ _ _
  have hob : Ob (w.setCells c 0 (zeroRow N)) mb pb es clk o s c N L (fun _ => ⟨0, 0, 0, 0, 0⟩) := h.wrote hT (by
    intro k hk
    have key : ∀ q, q < 5 → (w.setCells c 0 (zeroRow N)).cell? ⟨c, 0 + k * 5 + q, none⟩ = some (zeroCs[q]!) := by
      intro q hq
      have hlt : k * 5 + q < (zeroRow N).length := by rw [zeroRow_len]; omega
      have := World.cell?_setCells_in c (zeroRow N) 0 w (fun j hj => hsome j (by rw [zeroRow_len] at hj; exact hj)) (k * 5 + q) hlt
      rw [show 0 + k * 5 + q = 0 + (k * 5 + q) from by omega, this]
      simp [zeroRow, Builtin.zeroCells, zeroCs]
      rw [Nat.mod_eq_of_lt hq]
    exact ⟨key 0 (by omega), key 1 (by omega), key 2 (by omega), key 3 (by omega), key 4 (by omega)⟩)
  have HT := Lib.hid hT
  have HOB := Lib.hid hob
  have c1 := h.c1
  have hfd := fun w => field_cells s c N w
  clear hT hob h hcell hsome hf
  go_enter Try.func25, Try.ntmps25
  go_wp2_with fail
  go_end0
  exact ⟨rfl, HT.out, HOB.out⟩
/-- An object that is gone. -/
theorem gone_behind (mb pb : Nat) (es : Array MapEntry) (clk : Nat) (o f : Int) (w : World) (hf : Instr.findNow (.int .i64) (.int .i64 o) es.toList 0 = some none) (c1 : w.cell? ⟨mb, 1, none⟩ = some (.map (some pb))) (hb : w.heap[pb]? = some (.map es clk)) : BehindIs w mb (ptrV 1 o f) noObj false := fun w' h => by
  have hm := World.block_lt_of_cell? w _ c1
  have hp : pb < w.heap.size := (Array.getElem?_eq_some_iff.1 hb).1
  exact behind_not mb pb es clk o f hf w' (by rw [h.cell (by exact hm)]; exact c1) (by rw [h.block pb hp]; exact hb)
end Go.Proofs.Ytdkhanjfncbfnaa
