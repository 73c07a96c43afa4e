import Derived.Test.YtbflijjkdndefaaArC
namespace Go.Proofs.Ytbflijjkdndefaa
open Go Go.RowKit
set_option linter.unusedVariables false
set_option linter.unusedSimpArgs false

theorem w64_lo (x : Int) : -9223372036854775808 ≤ wrap64 x := by rw [w64]; omega
theorem w64_hi (x : Int) : wrap64 x ≤ 9223372036854775807 := by rw [w64]; omega
theorem wi64 (x : Int) : IntKind.i64.wrap x = wrap64 x := by
  rw [w64]; simp [IntKind.wrap, IntKind.bits, IntKind.signed]; split <;> omega
theorem fitZ_w64 {sz : Nat} (h : szOk sz) (sg : Bool) (n : Int) : fitZ sz sg (wrap64 n) = fitZ sz sg n := by
  have e : wrap64 n = n + 18446744073709551616 * (-((n + 9223372036854775808) / 18446744073709551616)) := by rw [w64]; omega
  rw [e, fitZ_wrap h]

/-- The nine cells of a box that holds an integer type. -/
structure T9 (w : World) (b : Nat) (sz : Nat) (sg : Bool) : Prop where
  c0 : w.cell? ⟨b, 0, none⟩ = some (.int .i64 1)
  c1 : w.cell? ⟨b, 1, none⟩ = some (.int .i64 sz)
  c2 : w.cell? ⟨b, 2, none⟩ = some (.bool sg)
  c3 : w.cell? ⟨b, 3, none⟩ = some (.bool false)
  c4 : w.cell? ⟨b, 4, none⟩ = some (.pointer none)
  c5 : w.cell? ⟨b, 5, none⟩ = some (.int .i64 0)
  c6 : w.cell? ⟨b, 6, none⟩ = some (.int .i64 0)
  c7 : w.cell? ⟨b, 7, none⟩ = some (.slice none 0 0)
  c8 : w.cell? ⟨b, 8, none⟩ = some (.pointer none)
theorem T9.below {w w' : World} {b : Nat} {sz : Nat} {sg : Bool} {lim : Nat} (h : T9 w b sz sg) (hb : Below lim w w') (hl : b < lim) : T9 w' b sz sg := by
  obtain ⟨h0, h1, h2, h3, h4, h5, h6, h7, h8⟩ := h
  constructor <;> (rw [hb.cell (by exact hl)]; assumption)
theorem t9_alloc (w : World) (sz : Nat) (sg : Bool) (ty : TypeId) : T9 (w.alloc (.cells #[.int .i64 1, .int .i64 sz, .bool sg, .bool false, .pointer none, .int .i64 0, .int .i64 0, .slice none 0 0, .pointer none] ty)) w.heap.size sz sg := by
  constructor <;> simp

set_option maxHeartbeats 2000000 in
theorem bin_add {sz : Nat} (h : szOk sz) (sg : Bool) (a b : Int) (w : World) : Calls Try.prog 11 #[.string ⟨#[43]⟩, tV sz sg, .int .i64 a, .int .i64 b] w (PairIs (fitZ sz sg (a + b)) true w) := by
  rw [show tV sz sg = .agg #[.int .i64 1, .int .i64 sz, .bool sg, .bool false, .pointer none, .int .i64 0, .int .i64 0, .slice none 0 0, .pointer none] from rfl]
  go_enter Try.func11, Try.ntmps11
  go_wp2_with (go_at_call 13; refine (fit_any h sg _ (w64_lo _) (w64_hi _) _).mono ?_; rintro e w1 ⟨rfl, hb1⟩; obtain ⟨hc, hf⟩ := bcell hb1)
  go_ret2
  exact ⟨ret_pair (fitZ_w64 h sg _) rfl, ((Below.refl _ _).alloc (Nat.le_refl _) _).trans (hb1.mono (by simp))⟩

set_option maxHeartbeats 2000000 in
theorem bin_sub {sz : Nat} (h : szOk sz) (sg : Bool) (a b : Int) (w : World) : Calls Try.prog 11 #[.string ⟨#[45]⟩, tV sz sg, .int .i64 a, .int .i64 b] w (PairIs (fitZ sz sg (a - b)) true w) := by
  rw [show tV sz sg = .agg #[.int .i64 1, .int .i64 sz, .bool sg, .bool false, .pointer none, .int .i64 0, .int .i64 0, .slice none 0 0, .pointer none] from rfl]
  go_enter Try.func11, Try.ntmps11
  go_wp2_with (go_at_call 13; refine (fit_any h sg _ (w64_lo _) (w64_hi _) _).mono ?_; rintro e w1 ⟨rfl, hb1⟩; obtain ⟨hc, hf⟩ := bcell hb1)
  go_ret2
  exact ⟨ret_pair (fitZ_w64 h sg _) rfl, ((Below.refl _ _).alloc (Nat.le_refl _) _).trans (hb1.mono (by simp))⟩

set_option maxHeartbeats 2000000 in
theorem bin_mul {sz : Nat} (h : szOk sz) (sg : Bool) (a b : Int) (w : World) : Calls Try.prog 11 #[.string ⟨#[42]⟩, tV sz sg, .int .i64 a, .int .i64 b] w (PairIs (fitZ sz sg (a * b)) true w) := by
  rw [show tV sz sg = .agg #[.int .i64 1, .int .i64 sz, .bool sg, .bool false, .pointer none, .int .i64 0, .int .i64 0, .slice none 0 0, .pointer none] from rfl]
  go_enter Try.func11, Try.ntmps11
  go_wp2_with (go_at_call 13; refine (fit_any h sg _ (w64_lo _) (w64_hi _) _).mono ?_; rintro e w1 ⟨rfl, hb1⟩; obtain ⟨hc, hf⟩ := bcell hb1)
  go_ret2
  exact ⟨ret_pair (fitZ_w64 h sg _) rfl, ((Below.refl _ _).alloc (Nat.le_refl _) _).trans (hb1.mono (by simp))⟩

set_option maxHeartbeats 2000000 in
theorem bin_and {sz : Nat} (h : szOk sz) (sg : Bool) (a b : Int) (w : World) : Calls Try.prog 11 #[.string ⟨#[38]⟩, tV sz sg, .int .i64 a, .int .i64 b] w (PairIs (fitZ sz sg (bits .and .i64 a b)) true w) := by
  have h0 := bits_lo_i64 .and a b
  have h1 := bits_hi_i64 .and a b
  rw [show tV sz sg = .agg #[.int .i64 1, .int .i64 sz, .bool sg, .bool false, .pointer none, .int .i64 0, .int .i64 0, .slice none 0 0, .pointer none] from rfl]
  go_enter Try.func11, Try.ntmps11
  go_wp2_with (go_at_call 13; refine (fit_any h sg (bits .and .i64 a b) h0 h1 _).mono ?_; rintro e w1 ⟨rfl, hb1⟩; obtain ⟨hc, hf⟩ := bcell hb1)
  go_ret2
  exact ⟨rfl, ((Below.refl _ _).alloc (Nat.le_refl _) _).trans (hb1.mono (by simp))⟩

set_option maxHeartbeats 2000000 in
theorem bin_or {sz : Nat} (h : szOk sz) (sg : Bool) (a b : Int) (w : World) : Calls Try.prog 11 #[.string ⟨#[124]⟩, tV sz sg, .int .i64 a, .int .i64 b] w (PairIs (fitZ sz sg (bits .or .i64 a b)) true w) := by
  have h0 := bits_lo_i64 .or a b
  have h1 := bits_hi_i64 .or a b
  rw [show tV sz sg = .agg #[.int .i64 1, .int .i64 sz, .bool sg, .bool false, .pointer none, .int .i64 0, .int .i64 0, .slice none 0 0, .pointer none] from rfl]
  go_enter Try.func11, Try.ntmps11
  go_wp2_with (go_at_call 13; refine (fit_any h sg (bits .or .i64 a b) h0 h1 _).mono ?_; rintro e w1 ⟨rfl, hb1⟩; obtain ⟨hc, hf⟩ := bcell hb1)
  go_ret2
  exact ⟨rfl, ((Below.refl _ _).alloc (Nat.le_refl _) _).trans (hb1.mono (by simp))⟩

set_option maxHeartbeats 2000000 in
theorem bin_xor {sz : Nat} (h : szOk sz) (sg : Bool) (a b : Int) (w : World) : Calls Try.prog 11 #[.string ⟨#[94]⟩, tV sz sg, .int .i64 a, .int .i64 b] w (PairIs (fitZ sz sg (bits .xor .i64 a b)) true w) := by
  have h0 := bits_lo_i64 .xor a b
  have h1 := bits_hi_i64 .xor a b
  rw [show tV sz sg = .agg #[.int .i64 1, .int .i64 sz, .bool sg, .bool false, .pointer none, .int .i64 0, .int .i64 0, .slice none 0 0, .pointer none] from rfl]
  go_enter Try.func11, Try.ntmps11
  go_wp2_with (go_at_call 13; refine (fit_any h sg (bits .xor .i64 a b) h0 h1 _).mono ?_; rintro e w1 ⟨rfl, hb1⟩; obtain ⟨hc, hf⟩ := bcell hb1)
  go_ret2
  exact ⟨rfl, ((Below.refl _ _).alloc (Nat.le_refl _) _).trans (hb1.mono (by simp))⟩

set_option maxHeartbeats 4000000 in
theorem bin_shl {sz : Nat} (h : szOk sz) (sg : Bool) (a b : Int) (ha0 : -9223372036854775808 ≤ a) (ha1 : a ≤ 9223372036854775807) (hb0 : -9223372036854775808 ≤ b) (hb1 : b ≤ 9223372036854775807) (w : World) : Calls Try.prog 11 #[.string ⟨#[60, 60]⟩, tV sz sg, .int .i64 a, .int .i64 b] w (PairIs (fitZ sz sg (a * 2 ^ (distZ sz b).toNat)) true w) := by
  obtain ⟨hd0, hd1, hd2⟩ := distZ_range h b
  have hd3 : distZ sz b ≤ 64 := by omega
  have hv0 := w64_lo (a * 2 ^ (distZ sz b).toNat)
  have hv1 := w64_hi (a * 2 ^ (distZ sz b).toNat)
  have hw0 : -9223372036854775808 ≤ IntKind.i64.wrap (a * 2 ^ (distZ sz b).toNat) := by rw [wi64]; exact hv0
  have hw1 : IntKind.i64.wrap (a * 2 ^ (distZ sz b).toNat) ≤ 9223372036854775807 := by rw [wi64]; exact hv1
  rw [show tV sz sg = .agg #[.int .i64 1, .int .i64 sz, .bool sg, .bool false, .pointer none, .int .i64 0, .int .i64 0, .slice none 0 0, .pointer none] from rfl]
  go_enter Try.func11, Try.ntmps11
  go_wp2_with fail
  generalize hW : w.alloc _ = W
  have hbW : Below w.heap.size w W := by rw [← hW]; exact (Below.refl _ _).alloc (Nat.le_refl _) _
  have hsW : W.heap.size = w.heap.size + 1 := by rw [← hW]; simp
  have HK : Hid (T9 W w.heap.size sz sg) := Lib.hid (by rw [← hW]; exact t9_alloc w sz sg _)
  have HBW := Lib.hid hbW
  have HSW := Lib.hid hsW
  obtain ⟨k0_0, k0_1, k0_2, k0_3, k0_4, k0_5, k0_6, k0_7, k0_8⟩ := HK.out
  clear hW hbW hsW
  go_region_held3 (fun w' => w'.cell? ⟨w.heap.size, 0, none⟩ = some (.int .i64 1) ∧ w'.cell? ⟨w.heap.size, 1, none⟩ = some (.int .i64 sz) ∧ w'.cell? ⟨w.heap.size, 2, none⟩ = some (.bool sg) ∧ w'.cell? ⟨w.heap.size, 3, none⟩ = some (.bool false) ∧ w'.cell? ⟨w.heap.size, 4, none⟩ = some (.pointer none) ∧ w'.cell? ⟨w.heap.size, 5, none⟩ = some (.int .i64 0) ∧ w'.cell? ⟨w.heap.size, 6, none⟩ = some (.int .i64 0) ∧ w'.cell? ⟨w.heap.size, 7, none⟩ = some (.slice none 0 0) ∧ w'.cell? ⟨w.heap.size, 8, none⟩ = some (.pointer none)) (go_keep)
    (first
      | (go_at_call 17
         refine (distance_any h sg b hb0 hb1 _).mono ?_
         rintro e w_1 ⟨rfl, hb1⟩
         have HB1 : Hid (Below W.heap.size W w_1) := Lib.hid ((Below.refl W.heap.size W).drew.trans hb1)
         obtain ⟨k1_0, k1_1, k1_2, k1_3, k1_4, k1_5, k1_6, k1_7, k1_8⟩ := HK.out.below HB1.out (by have := HSW.out; omega)
         clear hb1 k0_0 k0_1 k0_2 k0_3 k0_4 k0_5 k0_6 k0_7 k0_8)
      | (go_at_call 13
         refine (fit_any h sg (IntKind.i64.wrap (a * 2 ^ (distZ sz b).toNat)) hw0 hw1 _).mono ?_
         rintro e w_2 ⟨rfl, hb2⟩
         have HB2 : Hid (Below W.heap.size W w_2) := Lib.hid (HB1.out.trans (hb2.mono HB1.out.size))
         obtain ⟨k2_0, k2_1, k2_2, k2_3, k2_4, k2_5, k2_6, k2_7, k2_8⟩ := HK.out.below HB2.out (by have := HSW.out; omega)
         clear hb2 k1_0 k1_1 k1_2 k1_3 k1_4 k1_5 k1_6 k1_7 k1_8))
  have hbw := HBW.out.trans (HB2.out.mono (by have := HSW.out; omega))
  go_wp2
  go_ret2
  exact ⟨ret_pair (by first | exact fitZ_w64 h sg _ | (rw [wi64]; exact fitZ_w64 h sg _)) rfl, hbw⟩

theorem rightZ_range (sg : Bool) (a n : Int) (ha0 : -9223372036854775808 ≤ a) (ha1 : a ≤ 9223372036854775807) : -9223372036854775808 ≤ rightZ sg a n ∧ rightZ sg a n ≤ 9223372036854775807 := by
  cases sg
  · exact ⟨w64_lo _, w64_hi _⟩
  · show _ ≤ a / 2 ^ n.toNat ∧ a / 2 ^ n.toNat ≤ _
    have hp : (0 : Int) < 2 ^ n.toNat := Int.pow_pos (by decide)
    have hp1 : (1 : Int) ≤ 2 ^ n.toNat := by omega
    constructor
    · apply Int.le_ediv_of_mul_le hp
      have := Int.mul_le_mul_of_nonpos_left (show (-9223372036854775808 : Int) ≤ 0 by decide) hp1
      omega
    · have h2 : a / 2 ^ n.toNat < 9223372036854775808 := by
        apply Int.ediv_lt_of_lt_mul hp
        have := Int.mul_le_mul_of_nonneg_left hp1 (show (0 : Int) ≤ 9223372036854775808 by decide)
        omega
      omega

set_option maxHeartbeats 4000000 in
theorem bin_shr {sz : Nat} (h : szOk sz) (sg : Bool) (a b : Int) (ha0 : -9223372036854775808 ≤ a) (ha1 : a ≤ 9223372036854775807) (hb0 : -9223372036854775808 ≤ b) (hb1 : b ≤ 9223372036854775807) (w : World) : Calls Try.prog 11 #[.string ⟨#[62, 62]⟩, tV sz sg, .int .i64 a, .int .i64 b] w (PairIs (fitZ sz sg (rightZ sg a (distZ sz b))) true w) := by
  obtain ⟨hd0, hd1, hd2⟩ := distZ_range h b
  have hd3 : distZ sz b < 64 := by omega
  obtain ⟨hr0, hr1⟩ := rightZ_range sg a (distZ sz b) ha0 ha1
  rw [show tV sz sg = .agg #[.int .i64 1, .int .i64 sz, .bool sg, .bool false, .pointer none, .int .i64 0, .int .i64 0, .slice none 0 0, .pointer none] from rfl]
  go_enter Try.func11, Try.ntmps11
  go_wp2_with fail
  generalize hW : w.alloc _ = W
  have hbW : Below w.heap.size w W := by rw [← hW]; exact (Below.refl _ _).alloc (Nat.le_refl _) _
  have hsW : W.heap.size = w.heap.size + 1 := by rw [← hW]; simp
  have HK : Hid (T9 W w.heap.size sz sg) := Lib.hid (by rw [← hW]; exact t9_alloc w sz sg _)
  have HBW := Lib.hid hbW
  have HSW := Lib.hid hsW
  obtain ⟨k0_0, k0_1, k0_2, k0_3, k0_4, k0_5, k0_6, k0_7, k0_8⟩ := HK.out
  clear hW hbW hsW
  go_region_held3 (fun w' => w'.cell? ⟨w.heap.size, 0, none⟩ = some (.int .i64 1) ∧ w'.cell? ⟨w.heap.size, 1, none⟩ = some (.int .i64 sz) ∧ w'.cell? ⟨w.heap.size, 2, none⟩ = some (.bool sg) ∧ w'.cell? ⟨w.heap.size, 3, none⟩ = some (.bool false) ∧ w'.cell? ⟨w.heap.size, 4, none⟩ = some (.pointer none) ∧ w'.cell? ⟨w.heap.size, 5, none⟩ = some (.int .i64 0) ∧ w'.cell? ⟨w.heap.size, 6, none⟩ = some (.int .i64 0) ∧ w'.cell? ⟨w.heap.size, 7, none⟩ = some (.slice none 0 0) ∧ w'.cell? ⟨w.heap.size, 8, none⟩ = some (.pointer none)) (go_keep)
    (first
      | (go_at_call 17
         refine (distance_any h sg b hb0 hb1 _).mono ?_
         rintro e w_1 ⟨rfl, hb1⟩
         have HB1 : Hid (Below W.heap.size W w_1) := Lib.hid ((Below.refl W.heap.size W).drew.trans hb1)
         obtain ⟨k1_0, k1_1, k1_2, k1_3, k1_4, k1_5, k1_6, k1_7, k1_8⟩ := HK.out.below HB1.out (by have := HSW.out; omega)
         clear hb1 k0_0 k0_1 k0_2 k0_3 k0_4 k0_5 k0_6 k0_7 k0_8)
      | (go_at_call 18
         refine (right_any sz sg a (distZ sz b) hd0 hd3 _).mono ?_
         rintro e w_2 ⟨rfl, hb2⟩
         have HB2 : Hid (Below W.heap.size W w_2) := Lib.hid (HB1.out.trans (hb2.mono HB1.out.size))
         obtain ⟨k2_0, k2_1, k2_2, k2_3, k2_4, k2_5, k2_6, k2_7, k2_8⟩ := HK.out.below HB2.out (by have := HSW.out; omega)
         clear hb2 k1_0 k1_1 k1_2 k1_3 k1_4 k1_5 k1_6 k1_7 k1_8)
      | (go_at_call 13
         refine (fit_any h sg (rightZ sg a (distZ sz b)) hr0 hr1 _).mono ?_
         rintro e w_3 ⟨rfl, hb3⟩
         have HB3 : Hid (Below W.heap.size W w_3) := Lib.hid (HB2.out.trans (hb3.mono HB2.out.size))
         obtain ⟨k3_0, k3_1, k3_2, k3_3, k3_4, k3_5, k3_6, k3_7, k3_8⟩ := HK.out.below HB3.out (by have := HSW.out; omega)
         clear hb3 k2_0 k2_1 k2_2 k2_3 k2_4 k2_5 k2_6 k2_7 k2_8))
  have hbw := HBW.out.trans (HB3.out.mono (by have := HSW.out; omega))
  go_wp2
  go_ret2
  exact ⟨rfl, hbw⟩

def quoR (sz : Nat) (sg : Bool) (a b : Int) : Int := if b == 0 || over sz sg a b then 0 else fitZ sz sg (quoZ sg a b)
def remR (sz : Nat) (sg : Bool) (a b : Int) : Int := if b == 0 || over sz sg a b then 0 else fitZ sz sg (remZ sg a b)
def divOk (sz : Nat) (sg : Bool) (a b : Int) : Bool := !(b == 0 || over sz sg a b)
def quoQ (sz : Nat) (sg : Bool) (a b : Int) : Int := if b == 0 || over sz sg a b then 0 else quoZ sg a b
def remQ (sz : Nat) (sg : Bool) (a b : Int) : Int := if b == 0 || over sz sg a b then 0 else remZ sg a b
theorem fitZ_0 {sz : Nat} (h : szOk sz) (sg : Bool) : fitZ sz sg 0 = 0 := by
  rcases h with rfl | rfl | rfl | rfl <;> cases sg <;> rfl
theorem quoR_eq {sz : Nat} (h : szOk sz) (sg : Bool) (a b : Int) : fitZ sz sg (quoQ sz sg a b) = quoR sz sg a b := by
  unfold quoQ quoR; split
  · exact fitZ_0 h sg
  · rfl
theorem remR_eq {sz : Nat} (h : szOk sz) (sg : Bool) (a b : Int) : fitZ sz sg (remQ sz sg a b) = remR sz sg a b := by
  unfold remQ remR; split
  · exact fitZ_0 h sg
  · rfl

theorem divide_any {sz : Nat} (h : szOk sz) (sg : Bool) (a b : Int) (hb0 : -9223372036854775808 ≤ b) (hb1 : b ≤ 9223372036854775807) (w : World) : Calls Try.prog 19 #[tV sz sg, .int .i64 a, .int .i64 b] w (DivIs (quoQ sz sg a b) (remQ sz sg a b) (divOk sz sg a b) w) := by
  by_cases hz : b = 0
  · subst hz
    rw [show quoQ sz sg a 0 = 0 from rfl, show remQ sz sg a 0 = 0 from rfl, show divOk sz sg a 0 = false from rfl]
    exact divide_0 sz sg a w
  · have hz' : (b == 0) = false := by simpa using hz
    cases ho : over sz sg a b with
    | true =>
      have e1 : quoQ sz sg a b = 0 := by simp [quoQ, ho]
      have e2 : remQ sz sg a b = 0 := by simp [remQ, ho]
      have e3 : divOk sz sg a b = false := by simp [divOk, ho]
      rw [e1, e2, e3]
      unfold over at ho
      simp only [Bool.and_eq_true, beq_iff_eq] at ho
      obtain ⟨⟨⟨rfl, rfl⟩, rfl⟩, rfl⟩ := ho
      exact divide_o w
    | false =>
      have e1 : quoQ sz sg a b = quoZ sg a b := by simp [quoQ, ho, hz']
      have e2 : remQ sz sg a b = remZ sg a b := by simp [remQ, ho, hz']
      have e3 : divOk sz sg a b = true := by simp [divOk, ho, hz']
      rw [e1, e2, e3]
      cases sg
      · exact divide_u sz a b hz hb0 hb1 w
      · exact divide_s h a b hz ho w
theorem tdiv_range (a b : Int) (h0 : -9223372036854775808 ≤ a) (h1 : a ≤ 9223372036854775807) : -9223372036854775808 ≤ a.tmod b ∧ a.tmod b ≤ 9223372036854775807 := by
  have h2 := Int.natAbs_tmod a b
  have h3 := Nat.mod_le a.natAbs b.natAbs
  rcases Int.le_total 0 a with h | h
  · have h4 := Int.tmod_nonneg b h
    omega
  · have e : a.tmod b = -((-a).tmod b) := by rw [Int.neg_tmod, Int.neg_neg]
    have h4 := Int.tmod_nonneg b (show 0 ≤ -a by omega)
    omega
theorem quoQ_range (sz : Nat) (sg : Bool) (a b : Int) : -9223372036854775808 ≤ quoQ sz sg a b ∧ quoQ sz sg a b ≤ 9223372036854775807 := by
  unfold quoQ quoZ; split
  · omega
  · split
    · exact ⟨w64_lo _, w64_hi _⟩
    · exact ⟨w64_lo _, w64_hi _⟩
theorem remQ_range (sz : Nat) (sg : Bool) (a b : Int) (h0 : -9223372036854775808 ≤ a) (h1 : a ≤ 9223372036854775807) : -9223372036854775808 ≤ remQ sz sg a b ∧ remQ sz sg a b ≤ 9223372036854775807 := by
  unfold remQ remZ; split
  · omega
  · split
    · exact tdiv_range a b h0 h1
    · exact ⟨w64_lo _, w64_hi _⟩

set_option maxHeartbeats 4000000 in
theorem bin_quo {sz : Nat} (h : szOk sz) (sg : Bool) (a b : Int) (ha0 : -9223372036854775808 ≤ a) (ha1 : a ≤ 9223372036854775807) (hb0 : -9223372036854775808 ≤ b) (hb1 : b ≤ 9223372036854775807) (w : World) : Calls Try.prog 11 #[.string ⟨#[47]⟩, tV sz sg, .int .i64 a, .int .i64 b] w (PairIs (quoR sz sg a b) (divOk sz sg a b) w) := by
  obtain ⟨hq0, hq1⟩ := quoQ_range sz sg a b
  rw [show tV sz sg = .agg #[.int .i64 1, .int .i64 sz, .bool sg, .bool false, .pointer none, .int .i64 0, .int .i64 0, .slice none 0 0, .pointer none] from rfl]
  go_enter Try.func11, Try.ntmps11
  go_wp2_with (first
    | (go_at_call 19; refine (divide_any h sg a b hb0 hb1 _).mono ?_; rintro e w1 ⟨rfl, hc1⟩; obtain ⟨hc, hf⟩ := bcell hc1; have hz : w.heap.size + 1 ≤ w1.heap.size := by have := hc1.size; simp at this; omega)
    | (go_at_call 13; refine (fit_any h sg (quoQ sz sg a b) hq0 hq1 _).mono ?_; rintro e w2 ⟨rfl, hc2⟩; obtain ⟨hc', hf'⟩ := bcell hc2))
  go_ret2
  exact ⟨ret_pair (quoR_eq h sg a b) rfl, ((Below.refl _ _).alloc (Nat.le_refl _) _).trans ((hc1.mono (by simp)).trans (hc2.mono (by omega)))⟩

set_option maxHeartbeats 4000000 in
theorem bin_rem {sz : Nat} (h : szOk sz) (sg : Bool) (a b : Int) (ha0 : -9223372036854775808 ≤ a) (ha1 : a ≤ 9223372036854775807) (hb0 : -9223372036854775808 ≤ b) (hb1 : b ≤ 9223372036854775807) (w : World) : Calls Try.prog 11 #[.string ⟨#[37]⟩, tV sz sg, .int .i64 a, .int .i64 b] w (PairIs (remR sz sg a b) (divOk sz sg a b) w) := by
  obtain ⟨hq0, hq1⟩ := remQ_range sz sg a b ha0 ha1
  rw [show tV sz sg = .agg #[.int .i64 1, .int .i64 sz, .bool sg, .bool false, .pointer none, .int .i64 0, .int .i64 0, .slice none 0 0, .pointer none] from rfl]
  go_enter Try.func11, Try.ntmps11
  go_wp2_with (first
    | (go_at_call 19; refine (divide_any h sg a b hb0 hb1 _).mono ?_; rintro e w1 ⟨rfl, hc1⟩; obtain ⟨hc, hf⟩ := bcell hc1; have hz : w.heap.size + 1 ≤ w1.heap.size := by have := hc1.size; simp at this; omega)
    | (go_at_call 13; refine (fit_any h sg (remQ sz sg a b) hq0 hq1 _).mono ?_; rintro e w2 ⟨rfl, hc2⟩; obtain ⟨hc', hf'⟩ := bcell hc2))
  go_ret2
  exact ⟨ret_pair (remR_eq h sg a b) rfl, ((Below.refl _ _).alloc (Nat.le_refl _) _).trans ((hc1.mono (by simp)).trans (hc2.mono (by omega)))⟩

set_option maxHeartbeats 2000000 in
theorem bin_eq (sz : Nat) (sg : Bool) (a b : Int) (w : World) : Calls Try.prog 11 #[.string ⟨#[61, 61]⟩, tV sz sg, .int .i64 a, .int .i64 b] w (PairIs 0 false w) := by
  rw [show tV sz sg = .agg #[.int .i64 1, .int .i64 sz, .bool sg, .bool false, .pointer none, .int .i64 0, .int .i64 0, .slice none 0 0, .pointer none] from rfl]
  go_enter Try.func11, Try.ntmps11
  go_wp2
  go_ret2
  exact ⟨rfl, (Below.refl _ _).alloc (Nat.le_refl _) _⟩

set_option maxHeartbeats 2000000 in
theorem bin_what (sz : Nat) (sg : Bool) (a b : Int) (w : World) : Calls Try.prog 11 #[.string ⟨#[63]⟩, tV sz sg, .int .i64 a, .int .i64 b] w (PairIs 0 false w) := by
  rw [show tV sz sg = .agg #[.int .i64 1, .int .i64 sz, .bool sg, .bool false, .pointer none, .int .i64 0, .int .i64 0, .slice none 0 0, .pointer none] from rfl]
  go_enter Try.func11, Try.ntmps11
  go_wp2
  go_ret2
  exact ⟨rfl, (Below.refl _ _).alloc (Nat.le_refl _) _⟩
end Go.Proofs.Ytbflijjkdndefaa
