import Derived.Test.YtbflijjkdndefaaRows
import Derived.Test.YtbflijjkdndefaaArM
import Derived.WalkKit
import Derived.ProofKit
import Derived.Outline
import Derived.WalkLawsBesides
import Derived.WalkSpells
import Derived.Lib.Hide
import Derived.Lib.Strings
import Derived.Below
import Derived.IntWalk
import Derived.RegionTactic
import Derived.Deep.RegionHeld3
import Derived.Deep.DeepCutAuto
import Derived.BigQuiet
import Derived.Deep.QuietTactic
import Derived.StillTactics
import Derived.Laws.Pointers
import Derived.KernelRfl
namespace Go.Proofs.Ytbflijjkdndefaa
open Go Go.RowKit
set_option linter.unusedVariables false
set_option linter.unusedSimpArgs false

/-- An integer type as a value. -/
def tV (sz : Nat) (sg : Bool) : Value := .agg #[.int .i64 1, .int .i64 sz, .bool sg, .bool false, .pointer none, .int .i64 0, .int .i64 0, .slice none 0 0, .pointer none]
theorem tV_1 (sg : Bool) : tV 1 sg = .agg #[.int .i64 1, .int .i64 1, .bool sg, .bool false, .pointer none, .int .i64 0, .int .i64 0, .slice none 0 0, .pointer none] := rfl
theorem tV_2 (sg : Bool) : tV 2 sg = .agg #[.int .i64 1, .int .i64 2, .bool sg, .bool false, .pointer none, .int .i64 0, .int .i64 0, .slice none 0 0, .pointer none] := rfl
theorem tV_4 (sg : Bool) : tV 4 sg = .agg #[.int .i64 1, .int .i64 4, .bool sg, .bool false, .pointer none, .int .i64 0, .int .i64 0, .slice none 0 0, .pointer none] := rfl
theorem tV_8 (sg : Bool) : tV 8 sg = .agg #[.int .i64 1, .int .i64 8, .bool sg, .bool false, .pointer none, .int .i64 0, .int .i64 0, .slice none 0 0, .pointer none] := rfl

theorem ret_int {k : IntKind} {a b : Int} (h : a = b) : Ending.returned (.int k a) = .returned (.int k b) := by rw [h]
theorem ret_pair {a b : Int} {c d : Bool} (h : a = b) (h' : c = d) : Ending.returned (.tuple #[.int .i64 a, .bool c]) = .returned (.tuple #[.int .i64 b, .bool d]) := by rw [h, h']

/-- The number of bits. -/
def bitZ (sz : Nat) : Int := if sz = 1 then 8 else if sz = 2 then 16 else if sz = 4 then 32 else 64

def IntIs (k : IntKind) (r : Int) (w : World) (e : Ending) (w' : World) : Prop := e = .returned (.int k r) ∧ Below w.heap.size w w'
def BoolIs (r : Bool) (w : World) (e : Ending) (w' : World) : Prop := e = .returned (.bool r) ∧ Below w.heap.size w w'
def PairIs (r : Int) (ok : Bool) (w : World) (e : Ending) (w' : World) : Prop := e = .returned (.tuple #[.int .i64 r, .bool ok]) ∧ Below w.heap.size w w'

set_option maxHeartbeats 400000 in
theorem bits_any {sz : Nat} (h : szOk sz) (sg : Bool) (w : World) : Calls Try.prog 24 #[tV sz sg] w (IntIs .u64 (bitZ sz) w) := by
  rcases h with rfl | rfl | rfl | rfl
  · rw [tV_1]
    go_enter Try.func24, Try.ntmps24
    go_wp2
    go_ret
    exact ⟨rfl, (Below.refl _ _).alloc (Nat.le_refl _) _⟩
  · rw [tV_2]
    go_enter Try.func24, Try.ntmps24
    go_wp2
    go_ret
    exact ⟨rfl, (Below.refl _ _).alloc (Nat.le_refl _) _⟩
  · rw [tV_4]
    go_enter Try.func24, Try.ntmps24
    go_wp2
    go_ret
    exact ⟨rfl, (Below.refl _ _).alloc (Nat.le_refl _) _⟩
  · rw [tV_8]
    go_enter Try.func24, Try.ntmps24
    go_wp2
    go_ret
    exact ⟨rfl, (Below.refl _ _).alloc (Nat.le_refl _) _⟩

theorem bcell {W w1 : World} (hb : Below W.heap.size W w1) : (∀ b o, b < W.heap.size → w1.cell? ⟨b, o, none⟩ = W.cell? ⟨b, o, none⟩) ∧ (∀ b o, b < W.heap.size → w1.frozen? ⟨b, o, none⟩ = W.frozen? ⟨b, o, none⟩) :=
  ⟨fun b o h => hb.cell (p := ⟨b, o, none⟩) h, fun b o h => hb.frozen (p := ⟨b, o, none⟩) h⟩

theorem w64 (x : Int) : wrap64 x = (x + 9223372036854775808) % 18446744073709551616 - 9223372036854775808 := by unfold wrap64; rfl
theorem wu64 (x : Int) : IntKind.u64.wrap x = x % 18446744073709551616 := by
  simp [IntKind.wrap, IntKind.bits, IntKind.signed]

theorem szOk1 : szOk 1 := Or.inl rfl
theorem szOk2 : szOk 2 := Or.inr (Or.inl rfl)
theorem szOk4 : szOk 4 := Or.inr (Or.inr (Or.inl rfl))
theorem szOk8 : szOk 8 := Or.inr (Or.inr (Or.inr rfl))

set_option maxHeartbeats 1000000 in
theorem fit_1t (n : Int) (h0 : -9223372036854775808 ≤ n) (h1 : n ≤ 9223372036854775807) (w : World) : Calls Try.prog 13 #[tV 1 true, .int .i64 n] w (IntIs .i64 (fitZ 1 true n) w) := by
  rw [tV_1]
  go_enter Try.func13, Try.ntmps13
  go_wp2_with (go_at_call 24; refine (bits_any szOk1 true _).mono ?_; rintro e w1 ⟨rfl, hb1⟩; obtain ⟨hc, hf⟩ := bcell hb1; simp only [show bitZ 1 = 8 from rfl])
  go_ret
  refine ⟨ret_int ?_, ((Below.refl _ _).alloc (Nat.le_refl _) _).trans (hb1.mono (by simp))⟩
  clear hb1 hc hf
  obtain ⟨l1, l2, l3, l4, l5, l6, l7, l8⟩ := fitZ_lit n
  simp only [w64, wu64, l1, l2, l3, l4, l5, l6, l7, l8]
  omega

set_option maxHeartbeats 1000000 in
theorem fit_1f (n : Int) (h0 : -9223372036854775808 ≤ n) (h1 : n ≤ 9223372036854775807) (w : World) : Calls Try.prog 13 #[tV 1 false, .int .i64 n] w (IntIs .i64 (fitZ 1 false n) w) := by
  rw [tV_1]
  go_enter Try.func13, Try.ntmps13
  go_wp2_with (go_at_call 24; refine (bits_any szOk1 false _).mono ?_; rintro e w1 ⟨rfl, hb1⟩; obtain ⟨hc, hf⟩ := bcell hb1; simp only [show bitZ 1 = 8 from rfl])
  go_ret
  refine ⟨ret_int ?_, ((Below.refl _ _).alloc (Nat.le_refl _) _).trans (hb1.mono (by simp))⟩
  clear hb1 hc hf
  obtain ⟨l1, l2, l3, l4, l5, l6, l7, l8⟩ := fitZ_lit n
  simp only [w64, wu64, l1, l2, l3, l4, l5, l6, l7, l8]
  omega

set_option maxHeartbeats 1000000 in
theorem fit_2t (n : Int) (h0 : -9223372036854775808 ≤ n) (h1 : n ≤ 9223372036854775807) (w : World) : Calls Try.prog 13 #[tV 2 true, .int .i64 n] w (IntIs .i64 (fitZ 2 true n) w) := by
  rw [tV_2]
  go_enter Try.func13, Try.ntmps13
  go_wp2_with (go_at_call 24; refine (bits_any szOk2 true _).mono ?_; rintro e w1 ⟨rfl, hb1⟩; obtain ⟨hc, hf⟩ := bcell hb1; simp only [show bitZ 2 = 16 from rfl])
  go_ret
  refine ⟨ret_int ?_, ((Below.refl _ _).alloc (Nat.le_refl _) _).trans (hb1.mono (by simp))⟩
  clear hb1 hc hf
  obtain ⟨l1, l2, l3, l4, l5, l6, l7, l8⟩ := fitZ_lit n
  simp only [w64, wu64, l1, l2, l3, l4, l5, l6, l7, l8]
  omega

set_option maxHeartbeats 1000000 in
theorem fit_2f (n : Int) (h0 : -9223372036854775808 ≤ n) (h1 : n ≤ 9223372036854775807) (w : World) : Calls Try.prog 13 #[tV 2 false, .int .i64 n] w (IntIs .i64 (fitZ 2 false n) w) := by
  rw [tV_2]
  go_enter Try.func13, Try.ntmps13
  go_wp2_with (go_at_call 24; refine (bits_any szOk2 false _).mono ?_; rintro e w1 ⟨rfl, hb1⟩; obtain ⟨hc, hf⟩ := bcell hb1; simp only [show bitZ 2 = 16 from rfl])
  go_ret
  refine ⟨ret_int ?_, ((Below.refl _ _).alloc (Nat.le_refl _) _).trans (hb1.mono (by simp))⟩
  clear hb1 hc hf
  obtain ⟨l1, l2, l3, l4, l5, l6, l7, l8⟩ := fitZ_lit n
  simp only [w64, wu64, l1, l2, l3, l4, l5, l6, l7, l8]
  omega

set_option maxHeartbeats 1000000 in
theorem fit_4t (n : Int) (h0 : -9223372036854775808 ≤ n) (h1 : n ≤ 9223372036854775807) (w : World) : Calls Try.prog 13 #[tV 4 true, .int .i64 n] w (IntIs .i64 (fitZ 4 true n) w) := by
  rw [tV_4]
  go_enter Try.func13, Try.ntmps13
  go_wp2_with (go_at_call 24; refine (bits_any szOk4 true _).mono ?_; rintro e w1 ⟨rfl, hb1⟩; obtain ⟨hc, hf⟩ := bcell hb1; simp only [show bitZ 4 = 32 from rfl])
  go_ret
  refine ⟨ret_int ?_, ((Below.refl _ _).alloc (Nat.le_refl _) _).trans (hb1.mono (by simp))⟩
  clear hb1 hc hf
  obtain ⟨l1, l2, l3, l4, l5, l6, l7, l8⟩ := fitZ_lit n
  simp only [w64, wu64, l1, l2, l3, l4, l5, l6, l7, l8]
  omega

set_option maxHeartbeats 1000000 in
theorem fit_4f (n : Int) (h0 : -9223372036854775808 ≤ n) (h1 : n ≤ 9223372036854775807) (w : World) : Calls Try.prog 13 #[tV 4 false, .int .i64 n] w (IntIs .i64 (fitZ 4 false n) w) := by
  rw [tV_4]
  go_enter Try.func13, Try.ntmps13
  go_wp2_with (go_at_call 24; refine (bits_any szOk4 false _).mono ?_; rintro e w1 ⟨rfl, hb1⟩; obtain ⟨hc, hf⟩ := bcell hb1; simp only [show bitZ 4 = 32 from rfl])
  go_ret
  refine ⟨ret_int ?_, ((Below.refl _ _).alloc (Nat.le_refl _) _).trans (hb1.mono (by simp))⟩
  clear hb1 hc hf
  obtain ⟨l1, l2, l3, l4, l5, l6, l7, l8⟩ := fitZ_lit n
  simp only [w64, wu64, l1, l2, l3, l4, l5, l6, l7, l8]
  omega

set_option maxHeartbeats 1000000 in
theorem fit_8t (n : Int) (h0 : -9223372036854775808 ≤ n) (h1 : n ≤ 9223372036854775807) (w : World) : Calls Try.prog 13 #[tV 8 true, .int .i64 n] w (IntIs .i64 (fitZ 8 true n) w) := by
  rw [tV_8]
  go_enter Try.func13, Try.ntmps13
  go_wp2_with (go_at_call 24; refine (bits_any szOk8 true _).mono ?_; rintro e w1 ⟨rfl, hb1⟩; obtain ⟨hc, hf⟩ := bcell hb1; simp only [show bitZ 8 = 64 from rfl])
  go_ret
  refine ⟨ret_int ?_, ((Below.refl _ _).alloc (Nat.le_refl _) _).trans (hb1.mono (by simp))⟩
  clear hb1 hc hf
  obtain ⟨l1, l2, l3, l4, l5, l6, l7, l8⟩ := fitZ_lit n
  simp only [w64, wu64, l1, l2, l3, l4, l5, l6, l7, l8]
  omega

set_option maxHeartbeats 1000000 in
theorem fit_8f (n : Int) (h0 : -9223372036854775808 ≤ n) (h1 : n ≤ 9223372036854775807) (w : World) : Calls Try.prog 13 #[tV 8 false, .int .i64 n] w (IntIs .i64 (fitZ 8 false n) w) := by
  rw [tV_8]
  go_enter Try.func13, Try.ntmps13
  go_wp2_with (go_at_call 24; refine (bits_any szOk8 false _).mono ?_; rintro e w1 ⟨rfl, hb1⟩; obtain ⟨hc, hf⟩ := bcell hb1; simp only [show bitZ 8 = 64 from rfl])
  go_ret
  refine ⟨ret_int ?_, ((Below.refl _ _).alloc (Nat.le_refl _) _).trans (hb1.mono (by simp))⟩
  clear hb1 hc hf
  obtain ⟨l1, l2, l3, l4, l5, l6, l7, l8⟩ := fitZ_lit n
  simp only [w64, wu64, l1, l2, l3, l4, l5, l6, l7, l8]
  omega

theorem fit_any {sz : Nat} (h : szOk sz) (sg : Bool) (n : Int) (h0 : -9223372036854775808 ≤ n) (h1 : n ≤ 9223372036854775807) (w : World) : Calls Try.prog 13 #[tV sz sg, .int .i64 n] w (IntIs .i64 (fitZ sz sg n) w) := by
  rcases h with rfl | rfl | rfl | rfl <;> cases sg
  · exact fit_1f n h0 h1 w
  · exact fit_1t n h0 h1 w
  · exact fit_2f n h0 h1 w
  · exact fit_2t n h0 h1 w
  · exact fit_4f n h0 h1 w
  · exact fit_4t n h0 h1 w
  · exact fit_8f n h0 h1 w
  · exact fit_8t n h0 h1 w
end Go.Proofs.Ytbflijjkdndefaa
