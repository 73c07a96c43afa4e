import Derived.Test.YtbflijjkdndefaaArG
namespace Go.Proofs.Ytbflijjkdndefaa
open Go Go.RowKit
set_option linter.unusedVariables false
set_option linter.unusedSimpArgs false

theorem range_i64 {n : Int} (h : (Lit.int .i64 n).wf = true) : -9223372036854775808 ≤ n ∧ n ≤ 9223372036854775807 := by
  simpa [Lit.wf, IntKind.min, IntKind.max, IntKind.signed, IntKind.bits] using h

theorem fitZ_u {sz : Nat} (h : szOk sz) (sg : Bool) (n : Int) : fitZ sz sg (n % 18446744073709551616) = fitZ sz sg n := by
  have e : n % 18446744073709551616 = n + 18446744073709551616 * (-(n / 18446744073709551616)) := by omega
  rw [e, fitZ_wrap h]

theorem quo_rem {sz : Nat} (h : szOk sz) (sg : Bool) (x y : Int) (hx : isFit sz sg x) (hy : isFit sz sg y) :
    fitZ sz sg (fitZ sz sg (fitZ sz sg (quoZ sg x y) * y) + fitZ sz sg (remZ sg x y)) = x := by
  cases sg
  · refine parts_back h false x y _ _ (x % 18446744073709551616) (y % 18446744073709551616) (x % 18446744073709551616 / (y % 18446744073709551616)) (x % 18446744073709551616 % (y % 18446744073709551616)) ?_ ?_ ?_ ?_ ?_
    · rw [fitZ_u h]; exact hx
    · rw [fitZ_u h]; exact hy
    · exact (fitZ_w64 h _ _).symm
    · exact (fitZ_w64 h _ _).symm
    · exact (Int.ediv_mul_add_emod _ _).symm
  · refine parts_back h true x y _ _ x y (x.tdiv y) (x.tmod y) hx hy ?_ rfl ?_
    · exact (fitZ_w64 h _ _).symm
    · have := Int.tmod_add_mul_tdiv x y
      rw [Int.mul_comm (x.tdiv y)]; omega

theorem parts_any (how : Int) (w0 : (Lit.int .i64 how).wf = true) (a : Int) (w1 : (Lit.int .i64 a).wf = true) (b : Int) (w2 : (Lit.int .i64 b).wf = true) (w : World) :
    Calls Try.prog 5 #[.int .i64 how, .int .i64 a, .int .i64 b] w (BoolIs true w) := by
  obtain ⟨a0, a1⟩ := range_i64 w1
  obtain ⟨b0, b1⟩ := range_i64 w2
  have CT : ∀ w, Calls Try.prog 8 #[.int .i64 how] w (TypeIs (tySz how) (tySg how) w) := fun w => type_any how w
  have h := tySz_ok how
  generalize tySz how = sz at CT h
  generalize tySg how = sg at CT
  have CX : ∀ w, Calls Try.prog 13 #[tV sz sg, .int .i64 a] w (IntIs .i64 (fitZ sz sg a) w) := fun w => fit_any h sg a a0 a1 w
  have CY : ∀ w, Calls Try.prog 13 #[tV sz sg, .int .i64 b] w (IntIs .i64 (fitZ sz sg b) w) := fun w => fit_any h sg b b0 b1 w
  have fx : isFit sz sg (fitZ sz sg a) := isFit_fit h sg a
  have fy : isFit sz sg (fitZ sz sg b) := isFit_fit h sg b
  obtain ⟨x0, x1⟩ := fitZ_range h sg a
  obtain ⟨y0, y1⟩ := fitZ_range h sg b
  generalize fitZ sz sg a = x at CX fx x0 x1
  generalize fitZ sz sg b = y at CY fy y0 y1
  have CQ := fun w => bin_quo h sg x y x0 x1 y0 y1 w
  have CR := fun w => bin_rem h sg x y x0 x1 y0 y1 w
  have CP := fun w => bin_mul h sg (quoR sz sg x y) y w
  have CS := fun w => bin_add h sg (fitZ sz sg (quoR sz sg x y * y)) (remR sz sg x y) w
  have CU := fun w => bin_add h sg x y w
  have CV := fun w => bin_add h sg y x w
  rw [Int.add_comm y x] at CV
  have CW := fun w => bin_sub h sg (fitZ sz sg (x + y)) y w
  rw [back_sub h sg x y fx] at CW
  cases hd : divOk sz sg x y with
  | true =>
    rw [hd] at CQ CR
    have hbo : (y == 0 || over sz sg x y) = false := by simpa [divOk] using hd
    have e1 : quoR sz sg x y = fitZ sz sg (quoZ sg x y) := by unfold quoR; rw [hbo]; rfl
    have e2 : remR sz sg x y = fitZ sz sg (remZ sg x y) := by unfold remR; rw [hbo]; rfl
    have e3 : fitZ sz sg (fitZ sz sg (quoR sz sg x y * y) + remR sz sg x y) = x := by rw [e1, e2]; exact quo_rem h sg x y fx fy
    rw [e3] at CS
    rw [Bool.or_eq_false_iff] at hbo
    obtain ⟨hy, ho⟩ := hbo
    by_cases h8 : sz = 8
    · subst h8
      cases sg
      · exact parts_b how a b x y _ _ _ _ hy CT CX CY CQ CR CP CS CU CV CW w
      · by_cases hx : x = -9223372036854775808
        · subst hx
          have hy1 : (y == -1) = false := by simpa [over] using ho
          exact parts_d how a b y _ _ _ _ hy hy1 CT CX CY CQ CR CP CS CU CV CW w
        · exact parts_c how a b x y _ _ _ _ hy (by simpa using hx) CT CX CY CQ CR CP CS CU CV CW w
    · exact parts_a sz sg how a b x y _ _ _ _ (by simp; omega) hy CT CX CY CQ CR CP CS CU CV CW w
  | false =>
    rw [hd] at CQ CR
    have hbo : (y == 0 || over sz sg x y) = true := by
      unfold divOk at hd
      cases hc : (y == 0 || over sz sg x y) with
      | true => rfl
      | false => rw [hc] at hd; cases hd
    rw [Bool.or_eq_true] at hbo
    rcases hbo with hy | ho
    · have hy' : y = 0 := by simpa using hy
      subst hy'
      exact parts_e sz sg how a b x _ _ _ _ _ CT CX CY CQ CR CP CS CU CV CW w
    · unfold over at ho
      simp only [Bool.and_eq_true, beq_iff_eq] at ho
      obtain ⟨⟨⟨rfl, rfl⟩, rfl⟩, rfl⟩ := ho
      exact parts_f how a b _ _ _ _ _ CT CX CY CQ CR CP CS CU CV CW w
end Go.Proofs.Ytbflijjkdndefaa
