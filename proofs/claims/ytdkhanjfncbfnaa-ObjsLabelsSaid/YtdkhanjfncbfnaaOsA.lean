import Derived.Test.YtdkhanjfncbfnaaRows
import Derived.WalkKit
import Derived.ProofKit
import Derived.Outline
import Derived.WalkLawsBesides
import Derived.WalkSpells
import Derived.Lib.Hide
import Derived.Lib.Strings
import Derived.Below
import Derived.RegionTactic
import Derived.Deep.RegionHeld3
import Derived.Deep.RegionLaw
import Derived.Deep.DeepCutAuto
import Derived.BigQuiet
import Derived.Deep.QuietTactic
import Derived.StillTactics
import Derived.StillTailTactics
import Derived.LoopN
import Derived.Laws.Pointers
import Derived.KernelRfl
import Derived.Deep.Slices
namespace Go.Proofs.Ytdkhanjfncbfnaa
open Go Go.RowKit
set_option linter.unusedVariables false
set_option linter.unusedSimpArgs false

theorem takeD {P : Program} {ops : Array Oper} {Q : Exit → Act → World → Prop} {md : Region.Mode} {S : World → Prop} {i d : Nat} {oi : Oper} {v : Value} {fuel : Nat} {listed : Array Bool} {a : Act} {w : World} (hi : ops[i]? = some oi) (hd : oi.dst = some d)
    (hs : Region.noSelect ops = true) (hf : Region.free md ops listed i = true) (hr : (Region.ready md ops listed).contains i = true)
    (hQ : ∀ c a w, Q (.panic c) (a.put oi.dst v) w → Q (.panic c) a w) (hy : YieldsIf P ops S oi v a) (hS : S w)
    (h : wpAnyH P md ops Q S fuel (listed.setIfInBounds i true) (a.put (some d) v) w) : wpAnyH P md ops Q S (fuel + 1) listed a w :=
  wpAnyH_take hi hs hf hr hQ hy hS (by rw [hd]; exact h)

theorem drew_cell (w : World) (a : Addr) : w.drew.cell? a = w.cell? a := rfl
theorem zeroObj (w : World) : (zeroValue 102).run Try.prog w = .ok (.agg #[.slice none 0 0, .slice none 0 0]) w := by kernel_rfl
/-- What a map of objects gives at a key that it holds. -/
theorem run_look (w : World) (pb : Nat) (es : Array MapEntry) (clk : Nat) (hb : w.heap[pb]? = some (.map es clk)) (k : Int) (i : Nat) (v : Value) (hf : Instr.findNow (.int .i64) (.int .i64 k) es.toList 0 = some (some (i, v))) (ok : Bool) :
    (Instr.lookup 89 (.map (some pb)) (.int .i64 k) ok).run Try.prog w = .ok (if ok then .tuple #[v, .bool true] else v) w := by
  cases ok <;> simp [Instr.lookup, run_underlying Try.underlying89, MapKept.run_getObj_map hb, MapKept.run_checkKey (k := .int .i64 k) Try.underlying3 (show MapKept.IsKey (.int .i64) (.int .i64 k) from rfl), MapKept.run_findKey Try.underlying3 hf, Result.andThen]
theorem run_look_not (w : World) (pb : Nat) (es : Array MapEntry) (clk : Nat) (hb : w.heap[pb]? = some (.map es clk)) (k : Int) (hf : Instr.findNow (.int .i64) (.int .i64 k) es.toList 0 = some none) (ok : Bool) :
    (Instr.lookup 89 (.map (some pb)) (.int .i64 k) ok).run Try.prog w = .ok (if ok then .tuple #[.agg #[.slice none 0 0, .slice none 0 0], .bool false] else .agg #[.slice none 0 0, .slice none 0 0]) w := by
  cases ok <;> simp [Instr.lookup, run_underlying Try.underlying89, MapKept.run_getObj_map hb, MapKept.run_checkKey (k := .int .i64 k) Try.underlying3 (show MapKept.IsKey (.int .i64) (.int .i64 k) from rfl), MapKept.run_findKey Try.underlying3 hf, Result.andThen, zeroObj]
/-- An entry that is new. -/
theorem run_new (w : World) (pb : Nat) (es : Array MapEntry) (clk : Nat) (hb : w.heap[pb]? = some (.map es clk)) (k : Int) (v : Value) (hf : Instr.findNow (.int .i64) (.int .i64 k) es.toList 0 = some none) :
    (Instr.mapUpdate 89 (.map (some pb)) (.int .i64 k) v).run Try.prog w = .ok () { w with heap := w.heap.setIfInBounds pb (.map (es.push { key := .int .i64 k, val := v, born := clk }) (clk + 1)) } := by
  simp [Instr.mapUpdate, run_underlying Try.underlying89, MapKept.run_getObj_map hb, MapKept.run_checkKey (k := .int .i64 k) Try.underlying3 (show MapKept.IsKey (.int .i64) (.int .i64 k) from rfl), MapKept.run_findKey Try.underlying3 hf, Result.andThen, MapKept.run_setObj_map _ hb]
/-- An object: its labels from so on, its cells from co on, n of each. -/
def objV (s so c co n : Nat) : Value := .agg #[.slice (some ⟨s, so, none⟩) n n, .slice (some ⟨c, co, none⟩) n n]
def ptrV (k o f : Int) : Value := .agg #[.int .i64 k, .int .i64 o, .int .i64 f]
def noObj : Value := .agg #[.slice none 0 0, .slice none 0 0]

set_option maxRecDepth 100000 in
set_option maxHeartbeats 4000000 in
theorem behind_kind (mb : Nat) (k o f : Int) (hk : k ≠ 1) (w : World) :
    Calls Try.prog 35 #[.pointer (some ⟨mb, 0, none⟩), ptrV k o f] w fun e w' => e = .returned (.tuple #[noObj, .bool false]) ∧ Below w.heap.size w w' := by
  unfold ptrV
  go_enter Try.func35, Try.ntmps35
  go_wp2_with fail
  have hbw := Below.refl w.heap.size w
  refine bodyPost_ret (v := .tuple #[noObj, .bool false]) ?_ rfl ⟨rfl, ?_⟩
  · simp [results, Try.results35, go_sem, noObj]
  · ((repeat (first | (with_reducible exact hbw) | (with_reducible apply Below.setCell) | (with_reducible apply Below.alloc))) <;> first | omega | (simp <;> omega))

end Go.Proofs.Ytdkhanjfncbfnaa
