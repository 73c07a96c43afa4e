import Derived.Test.YtdkhanjfncbfnaaOsR
import Derived.Test.YtdkhanjfncbfnaaOsP
namespace Go.Proofs.Ytdkhanjfncbfnaa
open Go Go.RowKit Go.ChangeShapes Go.WideShapes Go.ChangeAt
set_option linter.unusedVariables false
set_option maxRecDepth 100000

theorem array2 {α : Type} {cs : Array α} (h : cs.size = 2) : ∃ a b, cs = #[a, b] := by
  obtain ⟨l⟩ := cs
  match l, h with
  | [a, b], _ => exact ⟨a, b, rfl⟩
theorem cellsA2 : Try.prog.cellsOf 80 = 2 := by kernel_rfl
theorem cellsI : Try.prog.cellsOf 2 = 1 := by kernel_rfl

/-- Two ints that came in as an array. -/
theorem open_pair {H : Type} {enc : TypeId × Value → H} {W : World} {base : Nat} {spare : Nat → Bool} {held : Bool} {r : Reach} {b0 : Nat} {v : Value} {d : DataW H} {p : List MemPlace}
    (hv : Value.okWide Try.prog W r b0 80 v) (h : DataW.Trod enc Try.prog W base spare held 80 v d p) :
    ∃ (n m : Int), v = .agg #[.int .i64 n, .int .i64 m] ∧ (Lit.int .i64 n).wf = true ∧ (Lit.int .i64 m).wf = true := by
  simp only [Value.okWide, Try.underlying80] at hv
  obtain ⟨cs, rfl, hsz, _⟩ := hv
  obtain ⟨c0, c1, rfl⟩ := array2 (hsz.trans cellsA2)
  obtain ⟨fuel, hf⟩ := h
  obtain ⟨xs, mm, _, _, _, hxl, hg⟩ := DataW.trod_array Try.underlying80 hf
  rw [cellsI] at hg
  have g0 := hg 0 (by omega)
  have g1 := hg 1 (by omega)
  rw [List.getElem?_eq_getElem (by omega)] at g0 g1
  obtain ⟨p, hp, e0, w0⟩ := DataW.trod_int Try.underlying2 g0
  obtain ⟨q, hq, e1, w1⟩ := DataW.trod_int Try.underlying2 g1
  refine ⟨p, q, ?_, ?_, ?_⟩
  · simp [Value.cells] at hp hq
    rw [hp, hq]
  · first | exact w0 | exact w0.2 | exact w0.1
  · first | exact w1 | exact w1.2 | exact w1.1

theorem gone_walk (a0 : Int) (w0 : (Lit.int .i64 a0).wf = true) (e0 : Int) (y0 : (Lit.int .i64 e0).wf = true) (a1 : Bool) (W : World) : Calls Try.prog 6 #[.agg #[.int .i64 a0, .int .i64 e0], .bool a1] W (BoolRes true W) :=
  gone_any a0 e0 (bounds_i64 w0) (bounds_i64 y0) a1 W
end Go.Proofs.Ytdkhanjfncbfnaa
