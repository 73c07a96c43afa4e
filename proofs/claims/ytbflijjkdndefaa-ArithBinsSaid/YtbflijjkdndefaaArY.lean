import Derived.Test.YtbflijjkdndefaaArW
import Derived.Test.YtbflijjkdndefaaArX
namespace Go.Proofs.Ytbflijjkdndefaa
open Go Go.RowKit
set_option linter.unusedVariables false
set_option linter.unusedSimpArgs false

theorem rbin_shl {sz : Nat} (h : szOk sz) (sg : Bool) (a b : Int) (hb0 : -9223372036854775808 ≤ b) (hb1 : b ≤ 9223372036854775807) (w : World) : Calls Try.prog 12 #[.string ⟨#[60, 60]⟩, tV sz sg, .int .i64 a, .int .i64 b] w (PairIs (fitZ sz sg (a * 2 ^ (distZ sz b).toNat)) true w) := by
  rcases h with rfl | rfl | rfl | rfl
  · exact rbin_shl1 sg a b hb0 hb1 w
  · exact rbin_shl2 sg a b hb0 hb1 w
  · exact rbin_shl4 sg a b hb0 hb1 w
  · exact rbin_shl8 sg a b hb0 hb1 w
theorem rbin_shr {sz : Nat} (h : szOk sz) (sg : Bool) (a b : Int) (ha0 : -9223372036854775808 ≤ a) (ha1 : a ≤ 9223372036854775807) (hb0 : -9223372036854775808 ≤ b) (hb1 : b ≤ 9223372036854775807) (ha : isFit sz sg a) (w : World) : Calls Try.prog 12 #[.string ⟨#[62, 62]⟩, tV sz sg, .int .i64 a, .int .i64 b] w (PairIs (fitZ sz sg (rightZ sg a (distZ sz b))) true w) := by
  rcases h with rfl | rfl | rfl | rfl <;> cases sg
  · exact rbin_shr1f a b hb0 hb1 ha w
  · exact rbin_shr1t a b ha0 ha1 hb0 hb1 ha w
  · exact rbin_shr2f a b hb0 hb1 ha w
  · exact rbin_shr2t a b ha0 ha1 hb0 hb1 ha w
  · exact rbin_shr4f a b hb0 hb1 ha w
  · exact rbin_shr4t a b ha0 ha1 hb0 hb1 ha w
  · exact rbin_shr8f a b hb0 hb1 ha w
  · exact rbin_shr8t a b ha0 ha1 hb0 hb1 ha w

theorem bins_any (h1 : Int) (w0 : (Lit.int .i64 h1).wf = true) (h2 : Int) (w1 : (Lit.int .i64 h2).wf = true) (a : Int) (w2 : (Lit.int .i64 a).wf = true) (b : Int) (w3 : (Lit.int .i64 b).wf = true) (w : World) :
    Calls Try.prog 3 #[.agg #[.int .i64 h1, .int .i64 h2], .int .i64 a, .int .i64 b] w (BoolIs true w) := by
  obtain ⟨a0, a1⟩ := range_i64 w2
  obtain ⟨b0, b1⟩ := range_i64 w3
  have CT : ∀ w, Calls Try.prog 8 #[.int .i64 h1] w (TypeIs (tySz h1) (tySg h1) w) := fun w => type_any h1 w
  have h := tySz_ok h1
  generalize tySz h1 = sz at CT h
  generalize tySg h1 = sg at CT
  obtain ⟨x0, x1⟩ := fitZ_range h sg a
  obtain ⟨y0, y1⟩ := fitZ_range h sg b
  have CX := fun w => rfit_any h sg a a0 a1 w
  have CY := fun w => rfit_any h sg b b0 b1 w
  have fx : isFit sz sg (fitZ sz sg a) := isFit_fit h sg a
  generalize fitZ sz sg a = x at CX fx x0 x1
  generalize fitZ sz sg b = y at CY y0 y1
  have h12 : 0 ≤ (h2.tmod 12 + 12) % 12 ∧ (h2.tmod 12 + 12) % 12 < 12 := by omega
  rcases (show (h2.tmod 12 + 12) % 12 = 0 ∨ (h2.tmod 12 + 12) % 12 = 1 ∨ (h2.tmod 12 + 12) % 12 = 2 ∨ (h2.tmod 12 + 12) % 12 = 3 ∨ (h2.tmod 12 + 12) % 12 = 4 ∨ (h2.tmod 12 + 12) % 12 = 5 ∨ (h2.tmod 12 + 12) % 12 = 6 ∨ (h2.tmod 12 + 12) % 12 = 7 ∨ (h2.tmod 12 + 12) % 12 = 8 ∨ (h2.tmod 12 + 12) % 12 = 9 ∨ (h2.tmod 12 + 12) % 12 = 10 ∨ (h2.tmod 12 + 12) % 12 = 11 by omega) with e | e | e | e | e | e | e | e | e | e | e | e
  · exact bins_0 sz sg h1 h2 a b x y _ _ CT (fun w => ops_0 h2 e w) CX CY (fun w => bin_add h sg x y w) (fun w => rbin_add h sg x y w) w
  · exact bins_1 sz sg h1 h2 a b x y _ _ CT (fun w => ops_1 h2 e w) CX CY (fun w => bin_sub h sg x y w) (fun w => rbin_sub h sg x y w) w
  · exact bins_2 sz sg h1 h2 a b x y _ _ CT (fun w => ops_2 h2 e w) CX CY (fun w => bin_mul h sg x y w) (fun w => rbin_mul h sg x y w) w
  · exact bins_3 sz sg h1 h2 a b x y _ _ CT (fun w => ops_3 h2 e w) CX CY (fun w => bin_and h sg x y w) (fun w => rbin_and h sg x y w) w
  · exact bins_4 sz sg h1 h2 a b x y _ _ CT (fun w => ops_4 h2 e w) CX CY (fun w => bin_or h sg x y w) (fun w => rbin_or h sg x y w) w
  · exact bins_5 sz sg h1 h2 a b x y _ _ CT (fun w => ops_5 h2 e w) CX CY (fun w => bin_xor h sg x y w) (fun w => rbin_xor h sg x y w) w
  · exact bins_6 sz sg h1 h2 a b x 0 _ _ CT (fun w => ops_6 h2 e w) CX (fun w => bin_shl h sg x b x0 x1 b0 b1 w) (fun w => rbin_shl h sg x b b0 b1 w) w
  · exact bins_7 sz sg h1 h2 a b x 0 _ _ CT (fun w => ops_7 h2 e w) CX (fun w => bin_shr h sg x b x0 x1 b0 b1 w) (fun w => rbin_shr h sg x b x0 x1 b0 b1 fx w) w
  · exact bins_8 sz sg h1 h2 a b x y _ _ CT (fun w => ops_8 h2 e w) CX CY (fun w => bin_quo h sg x y x0 x1 y0 y1 w) (fun w => rbin_quo h sg x y y0 y1 fx w) w
  · exact bins_9 sz sg h1 h2 a b x y _ _ CT (fun w => ops_9 h2 e w) CX CY (fun w => bin_rem h sg x y x0 x1 y0 y1 w) (fun w => rbin_rem h sg x y y0 y1 fx w) w
  · exact bins_10 sz sg h1 h2 a b x y _ _ CT (fun w => ops_10 h2 e w) CX CY (fun w => bin_eq sz sg x y w) (fun w => rbin_eq sz sg x y w) w
  · exact bins_11 sz sg h1 h2 a b x y _ _ CT (fun w => ops_11 h2 e w) CX CY (fun w => bin_what sz sg x y w) (fun w => rbin_what sz sg x y w) w
end Go.Proofs.Ytbflijjkdndefaa
