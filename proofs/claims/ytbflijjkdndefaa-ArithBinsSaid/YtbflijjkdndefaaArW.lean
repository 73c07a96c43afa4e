import Derived.Test.YtbflijjkdndefaaArV
import Derived.Test.YtbflijjkdndefaaArL
namespace Go.Proofs.Ytbflijjkdndefaa
open Go Go.RowKit Go.ChangeShapes Go.WideShapes Go.ChangeAt Go.Joins
set_option linter.unusedVariables false

theorem cellsA2 : Try.prog.cellsOf 22 = 2 := by kernel_rfl
theorem cellsI : Try.prog.cellsOf 3 = 1 := by kernel_rfl

/-- Two ints that came in as an array. -/
theorem open_pair {H : Type} {enc : TypeId × Value → H} {W : World} {base : Nat} {spare : Nat → Bool} {held : Bool} {r : Reach} {b0 : Nat} {v : Value} {d : DataW H} {p : List MemPlace}
    (hv : Value.okWide Try.prog W r b0 22 v) (h : DataW.Trod enc Try.prog W base spare held 22 v d p) :
    ∃ (n m : Int), v = .agg #[.int .i64 n, .int .i64 m] ∧ (Lit.int .i64 n).wf = true ∧ (Lit.int .i64 m).wf = true := by
  simp only [Value.okWide, Try.underlying22] at hv
  obtain ⟨cs, rfl, hsz, _⟩ := hv
  obtain ⟨c0, c1, rfl⟩ := array2 (hsz.trans cellsA2)
  obtain ⟨fuel, hf⟩ := h
  obtain ⟨xs, mm, _, _, _, hxl, hg⟩ := DataW.trod_array Try.underlying22 hf
  rw [cellsI] at hg
  have g0 := hg 0 (by omega)
  have g1 := hg 1 (by omega)
  rw [List.getElem?_eq_getElem (by omega)] at g0 g1
  obtain ⟨p, hp, e0, w0⟩ := DataW.trod_int Try.underlying3 g0
  obtain ⟨q, hq, e1, w1⟩ := DataW.trod_int Try.underlying3 g1
  refine ⟨p, q, ?_, ?_, ?_⟩
  · simp [Value.cells] at hp hq
    rw [hp, hq]
  · first | exact w0 | exact w0.2 | exact w0.1
  · first | exact w1 | exact w1.2 | exact w1.1

theorem ordZ_swap (sg : Bool) (x y : Int) : cmpYes 3 (ordZ sg y x) = cmpYes 2 (ordZ sg x y) := by
  unfold cmpYes ordZ cmpZ
  cases sg <;> simp <;> (repeat' split) <;> first | rfl | omega | simp_all

theorem fits_any (h1 : Int) (w0 : (Lit.int .i64 h1).wf = true) (h2 : Int) (w1 : (Lit.int .i64 h2).wf = true) (a : Int) (w2 : (Lit.int .i64 a).wf = true) (b : Int) (w3 : (Lit.int .i64 b).wf = true) (w : World) :
    Calls Try.prog 4 #[.agg #[.int .i64 h1, .int .i64 h2], .int .i64 a, .int .i64 b] w (BoolIs true w) := by
  obtain ⟨a0, a1⟩ := range_i64 w2
  obtain ⟨b0, b1⟩ := range_i64 w3
  have CT : ∀ w, Calls Try.prog 8 #[.int .i64 h1] w (TypeIs (tySz h1) (tySg h1) w) := fun w => type_any h1 w
  have h := tySz_ok h1
  generalize tySz h1 = sz at CT h
  generalize tySg h1 = sg at CT
  obtain ⟨x0, x1⟩ := fitZ_range h sg a
  obtain ⟨y0, y1⟩ := fitZ_range h sg b
  have CX := fun w => fit_any h sg a a0 a1 w
  have CY := fun w => fit_any h sg b b0 b1 w
  have CRX := fun w => rfit_any h sg a a0 a1 w
  have CXX := fun w => fit_any h sg (fitZ sz sg a) x0 x1 w
  rw [fitZ_fit h] at CXX
  generalize fitZ sz sg a = x at CX CRX CXX x0 x1
  generalize fitZ sz sg b = y at CY y0 y1
  have CC : ∀ k, k < 7 → ∀ w, Calls Try.prog 14 #[.string (cmpName k), tV sz sg, .int .i64 x, .int .i64 y] w (IntIs .i64 (bitI (cmpYes k (ordZ sg x y))) w) := by
    intro k hk w
    rcases (show k = 0 ∨ k = 1 ∨ k = 2 ∨ k = 3 ∨ k = 4 ∨ k = 5 ∨ k = 6 by omega) with rfl | rfl | rfl | rfl | rfl | rfl | rfl
    · exact Cmp_0 sz sg x y w
    · exact Cmp_1 sz sg x y w
    · exact Cmp_2 sz sg x y w
    · exact Cmp_3 sz sg x y w
    · exact Cmp_4 sz sg x y w
    · exact Cmp_5 sz sg x y w
    · exact Cmp_6 sz sg x y w
  have CR : ∀ k, k < 7 → ∀ w, Calls Try.prog 15 #[.string (cmpName k), tV sz sg, .int .i64 x, .int .i64 y] w (IntIs .i64 (bitI (cmpYes k (ordZ sg x y))) w) := by
    intro k hk w
    rcases (show k = 0 ∨ k = 1 ∨ k = 2 ∨ k = 3 ∨ k = 4 ∨ k = 5 ∨ k = 6 by omega) with rfl | rfl | rfl | rfl | rfl | rfl | rfl <;> cases sg
    · exact rCmp_0f sz x y x0 x1 y0 y1 w
    · exact rCmp_0t sz x y x0 x1 y0 y1 w
    · exact rCmp_1f sz x y x0 x1 y0 y1 w
    · exact rCmp_1t sz x y x0 x1 y0 y1 w
    · exact rCmp_2f sz x y x0 x1 y0 y1 w
    · exact rCmp_2t sz x y x0 x1 y0 y1 w
    · exact rCmp_3f sz x y x0 x1 y0 y1 w
    · exact rCmp_3t sz x y x0 x1 y0 y1 w
    · exact rCmp_4f sz x y x0 x1 y0 y1 w
    · exact rCmp_4t sz x y x0 x1 y0 y1 w
    · exact rCmp_5f sz x y x0 x1 y0 y1 w
    · exact rCmp_5t sz x y x0 x1 y0 y1 w
    · exact rCmp_6f sz x y x0 x1 y0 y1 w
    · exact rCmp_6t sz x y x0 x1 y0 y1 w
  have C2 := fun w => Cmp_2 sz sg x y w
  have C5 := fun w => Cmp_5 sz sg x y w
  have C3 := fun w => Cmp_3 sz sg y x w
  rw [ordZ_swap] at C3
  have e5 : cmpYes 5 (ordZ sg x y) = !cmpYes 2 (ordZ sg x y) := by
    rw [show cmpYes 5 (ordZ sg x y) = decide (0 ≤ ordZ sg x y) from rfl, show cmpYes 2 (ordZ sg x y) = decide (ordZ sg x y < 0) from rfl, ← decide_not]
    exact decide_eq_decide.2 (by omega)
  rw [e5] at C5
  cases hc : cmpYes 2 (ordZ sg x y) with
  | true =>
    rw [hc] at C2 C3 C5
    exact fits_1 sz sg h1 h2 a b x y _ CT CX CY CXX CRX CC CR C2 C5 C3 w
  | false =>
    rw [hc] at C2 C3 C5
    exact fits_0 sz sg h1 h2 a b x y _ CT CX CY CXX CRX CC CR C2 C5 C3 w
end Go.Proofs.Ytbflijjkdndefaa
