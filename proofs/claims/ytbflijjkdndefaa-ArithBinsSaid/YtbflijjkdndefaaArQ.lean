import Derived.Test.YtbflijjkdndefaaArP
namespace Go.Proofs.Ytbflijjkdndefaa
open Go Go.RowKit
set_option linter.unusedVariables false
set_option linter.unusedSimpArgs false

set_option maxHeartbeats 2000000 in
theorem rbin_add {sz : Nat} (h : szOk sz) (sg : Bool) (a b : Int) (w : World) : Calls Try.prog 12 #[.string ⟨#[43]⟩, tV sz sg, .int .i64 a, .int .i64 b] w (PairIs (fitZ sz sg (a + b)) true w) := by
  rw [show tV sz sg = .agg #[.int .i64 1, .int .i64 sz, .bool sg, .bool false, .pointer none, .int .i64 0, .int .i64 0, .slice none 0 0, .pointer none] from rfl]
  go_enter Try.func12, Try.ntmps12
  go_wp2_with (go_at_call 10; refine (rfit_any h sg _ (w64_lo _) (w64_hi _) _).mono ?_; rintro e w1 ⟨rfl, hb1⟩; obtain ⟨hc, hf⟩ := bcell hb1)
  go_ret2
  exact ⟨ret_pair (fitZ_w64 h sg _) rfl, ((Below.refl _ _).alloc (Nat.le_refl _) _).trans (hb1.mono (by simp))⟩

set_option maxHeartbeats 2000000 in
theorem rbin_sub {sz : Nat} (h : szOk sz) (sg : Bool) (a b : Int) (w : World) : Calls Try.prog 12 #[.string ⟨#[45]⟩, tV sz sg, .int .i64 a, .int .i64 b] w (PairIs (fitZ sz sg (a - b)) true w) := by
  rw [show tV sz sg = .agg #[.int .i64 1, .int .i64 sz, .bool sg, .bool false, .pointer none, .int .i64 0, .int .i64 0, .slice none 0 0, .pointer none] from rfl]
  go_enter Try.func12, Try.ntmps12
  go_wp2_with (go_at_call 10; refine (rfit_any h sg _ (w64_lo _) (w64_hi _) _).mono ?_; rintro e w1 ⟨rfl, hb1⟩; obtain ⟨hc, hf⟩ := bcell hb1)
  go_ret2
  exact ⟨ret_pair (fitZ_w64 h sg _) rfl, ((Below.refl _ _).alloc (Nat.le_refl _) _).trans (hb1.mono (by simp))⟩

set_option maxHeartbeats 2000000 in
theorem rbin_mul {sz : Nat} (h : szOk sz) (sg : Bool) (a b : Int) (w : World) : Calls Try.prog 12 #[.string ⟨#[42]⟩, tV sz sg, .int .i64 a, .int .i64 b] w (PairIs (fitZ sz sg (a * b)) true w) := by
  rw [show tV sz sg = .agg #[.int .i64 1, .int .i64 sz, .bool sg, .bool false, .pointer none, .int .i64 0, .int .i64 0, .slice none 0 0, .pointer none] from rfl]
  go_enter Try.func12, Try.ntmps12
  go_wp2_with (go_at_call 10; refine (rfit_any h sg _ (w64_lo _) (w64_hi _) _).mono ?_; rintro e w1 ⟨rfl, hb1⟩; obtain ⟨hc, hf⟩ := bcell hb1)
  go_ret2
  exact ⟨ret_pair (fitZ_w64 h sg _) rfl, ((Below.refl _ _).alloc (Nat.le_refl _) _).trans (hb1.mono (by simp))⟩

set_option maxHeartbeats 4000000 in
theorem rbin_and {sz : Nat} (h : szOk sz) (sg : Bool) (a b : Int) (w : World) : Calls Try.prog 12 #[.string ⟨#[38]⟩, tV sz sg, .int .i64 a, .int .i64 b] w (PairIs (fitZ sz sg (bits .and .i64 a b)) true w) := by
  have h0 := bits_lo_i64 .and a b
  have h1 := bits_hi_i64 .and a b
  have HB := Lib.hid (rbits_and a b)
  have HF := Lib.hid (rfit_any h sg (bits .and .i64 a b) h0 h1)
  rw [show tV sz sg = .agg #[.int .i64 1, .int .i64 sz, .bool sg, .bool false, .pointer none, .int .i64 0, .int .i64 0, .slice none 0 0, .pointer none] from rfl] at HF ⊢
  go_enter Try.func12, Try.ntmps12
  go_wp2_with fail
  generalize hW : w.alloc _ = W
  have hbW : Below w.heap.size w W := by rw [← hW]; exact (Below.refl _ _).alloc (Nat.le_refl _) _
  have hsW : W.heap.size = w.heap.size + 1 := by rw [← hW]; simp
  have HK : Hid (T9 W w.heap.size sz sg) := Lib.hid (by rw [← hW]; exact t9_alloc w sz sg _)
  have HBW := Lib.hid hbW
  have HSW := Lib.hid hsW
  obtain ⟨k0_0, k0_1, k0_2, k0_3, k0_4, k0_5, k0_6, k0_7, k0_8⟩ := HK.out
  clear hW hbW hsW
  go_region_held3 (fun w' => w'.cell? ⟨w.heap.size, 0, none⟩ = some (.int .i64 1) ∧ w'.cell? ⟨w.heap.size, 1, none⟩ = some (.int .i64 sz) ∧ w'.cell? ⟨w.heap.size, 2, none⟩ = some (.bool sg) ∧ w'.cell? ⟨w.heap.size, 3, none⟩ = some (.bool false) ∧ w'.cell? ⟨w.heap.size, 4, none⟩ = some (.pointer none) ∧ w'.cell? ⟨w.heap.size, 5, none⟩ = some (.int .i64 0) ∧ w'.cell? ⟨w.heap.size, 6, none⟩ = some (.int .i64 0) ∧ w'.cell? ⟨w.heap.size, 7, none⟩ = some (.slice none 0 0) ∧ w'.cell? ⟨w.heap.size, 8, none⟩ = some (.pointer none)) (go_keep)
    (first
      | (go_at_call 10
         (refine (HF.out _).mono ?_)
         rintro e w_2 ⟨rfl, hb2⟩
         have HB2 : Hid (Below W.heap.size W w_2) := Lib.hid (HB1.out.trans (hb2.mono HB1.out.size))
         obtain ⟨k2_0, k2_1, k2_2, k2_3, k2_4, k2_5, k2_6, k2_7, k2_8⟩ := HK.out.below HB2.out (by have := HSW.out; omega)
         clear hb2 k1_0 k1_1 k1_2 k1_3 k1_4 k1_5 k1_6 k1_7 k1_8)
      | (go_at_call 20
         (refine (HB.out _).mono ?_)
         rintro e w_1 ⟨rfl, hb1⟩
         have HB1 : Hid (Below W.heap.size W w_1) := Lib.hid ((Below.refl W.heap.size W).drew.trans hb1)
         obtain ⟨k1_0, k1_1, k1_2, k1_3, k1_4, k1_5, k1_6, k1_7, k1_8⟩ := HK.out.below HB1.out (by have := HSW.out; omega)
         clear hb1 k0_0 k0_1 k0_2 k0_3 k0_4 k0_5 k0_6 k0_7 k0_8))
  have hbw := HBW.out.trans (HB2.out.mono (by have := HSW.out; omega))
  go_wp2
  go_ret2
  exact ⟨rfl, hbw⟩

set_option maxHeartbeats 4000000 in
theorem rbin_or {sz : Nat} (h : szOk sz) (sg : Bool) (a b : Int) (w : World) : Calls Try.prog 12 #[.string ⟨#[124]⟩, tV sz sg, .int .i64 a, .int .i64 b] w (PairIs (fitZ sz sg (bits .or .i64 a b)) true w) := by
  have h0 := bits_lo_i64 .or a b
  have h1 := bits_hi_i64 .or a b
  have HB := Lib.hid (rbits_or a b)
  have HF := Lib.hid (rfit_any h sg (bits .or .i64 a b) h0 h1)
  rw [show tV sz sg = .agg #[.int .i64 1, .int .i64 sz, .bool sg, .bool false, .pointer none, .int .i64 0, .int .i64 0, .slice none 0 0, .pointer none] from rfl] at HF ⊢
  go_enter Try.func12, Try.ntmps12
  go_wp2_with fail
  generalize hW : w.alloc _ = W
  have hbW : Below w.heap.size w W := by rw [← hW]; exact (Below.refl _ _).alloc (Nat.le_refl _) _
  have hsW : W.heap.size = w.heap.size + 1 := by rw [← hW]; simp
  have HK : Hid (T9 W w.heap.size sz sg) := Lib.hid (by rw [← hW]; exact t9_alloc w sz sg _)
  have HBW := Lib.hid hbW
  have HSW := Lib.hid hsW
  obtain ⟨k0_0, k0_1, k0_2, k0_3, k0_4, k0_5, k0_6, k0_7, k0_8⟩ := HK.out
  clear hW hbW hsW
  go_region_held3 (fun w' => w'.cell? ⟨w.heap.size, 0, none⟩ = some (.int .i64 1) ∧ w'.cell? ⟨w.heap.size, 1, none⟩ = some (.int .i64 sz) ∧ w'.cell? ⟨w.heap.size, 2, none⟩ = some (.bool sg) ∧ w'.cell? ⟨w.heap.size, 3, none⟩ = some (.bool false) ∧ w'.cell? ⟨w.heap.size, 4, none⟩ = some (.pointer none) ∧ w'.cell? ⟨w.heap.size, 5, none⟩ = some (.int .i64 0) ∧ w'.cell? ⟨w.heap.size, 6, none⟩ = some (.int .i64 0) ∧ w'.cell? ⟨w.heap.size, 7, none⟩ = some (.slice none 0 0) ∧ w'.cell? ⟨w.heap.size, 8, none⟩ = some (.pointer none)) (go_keep)
    (first
      | (go_at_call 10
         (refine (HF.out _).mono ?_)
         rintro e w_2 ⟨rfl, hb2⟩
         have HB2 : Hid (Below W.heap.size W w_2) := Lib.hid (HB1.out.trans (hb2.mono HB1.out.size))
         obtain ⟨k2_0, k2_1, k2_2, k2_3, k2_4, k2_5, k2_6, k2_7, k2_8⟩ := HK.out.below HB2.out (by have := HSW.out; omega)
         clear hb2 k1_0 k1_1 k1_2 k1_3 k1_4 k1_5 k1_6 k1_7 k1_8)
      | (go_at_call 20
         (refine (HB.out _).mono ?_)
         rintro e w_1 ⟨rfl, hb1⟩
         have HB1 : Hid (Below W.heap.size W w_1) := Lib.hid ((Below.refl W.heap.size W).drew.trans hb1)
         obtain ⟨k1_0, k1_1, k1_2, k1_3, k1_4, k1_5, k1_6, k1_7, k1_8⟩ := HK.out.below HB1.out (by have := HSW.out; omega)
         clear hb1 k0_0 k0_1 k0_2 k0_3 k0_4 k0_5 k0_6 k0_7 k0_8))
  have hbw := HBW.out.trans (HB2.out.mono (by have := HSW.out; omega))
  go_wp2
  go_ret2
  exact ⟨rfl, hbw⟩

set_option maxHeartbeats 4000000 in
theorem rbin_xor {sz : Nat} (h : szOk sz) (sg : Bool) (a b : Int) (w : World) : Calls Try.prog 12 #[.string ⟨#[94]⟩, tV sz sg, .int .i64 a, .int .i64 b] w (PairIs (fitZ sz sg (bits .xor .i64 a b)) true w) := by
  have h0 := bits_lo_i64 .xor a b
  have h1 := bits_hi_i64 .xor a b
  have HB := Lib.hid (rbits_xor a b)
  have HF := Lib.hid (rfit_any h sg (bits .xor .i64 a b) h0 h1)
  rw [show tV sz sg = .agg #[.int .i64 1, .int .i64 sz, .bool sg, .bool false, .pointer none, .int .i64 0, .int .i64 0, .slice none 0 0, .pointer none] from rfl] at HF ⊢
  go_enter Try.func12, Try.ntmps12
  go_wp2_with fail
  generalize hW : w.alloc _ = W
  have hbW : Below w.heap.size w W := by rw [← hW]; exact (Below.refl _ _).alloc (Nat.le_refl _) _
  have hsW : W.heap.size = w.heap.size + 1 := by rw [← hW]; simp
  have HK : Hid (T9 W w.heap.size sz sg) := Lib.hid (by rw [← hW]; exact t9_alloc w sz sg _)
  have HBW := Lib.hid hbW
  have HSW := Lib.hid hsW
  obtain ⟨k0_0, k0_1, k0_2, k0_3, k0_4, k0_5, k0_6, k0_7, k0_8⟩ := HK.out
  clear hW hbW hsW
  go_region_held3 (fun w' => w'.cell? ⟨w.heap.size, 0, none⟩ = some (.int .i64 1) ∧ w'.cell? ⟨w.heap.size, 1, none⟩ = some (.int .i64 sz) ∧ w'.cell? ⟨w.heap.size, 2, none⟩ = some (.bool sg) ∧ w'.cell? ⟨w.heap.size, 3, none⟩ = some (.bool false) ∧ w'.cell? ⟨w.heap.size, 4, none⟩ = some (.pointer none) ∧ w'.cell? ⟨w.heap.size, 5, none⟩ = some (.int .i64 0) ∧ w'.cell? ⟨w.heap.size, 6, none⟩ = some (.int .i64 0) ∧ w'.cell? ⟨w.heap.size, 7, none⟩ = some (.slice none 0 0) ∧ w'.cell? ⟨w.heap.size, 8, none⟩ = some (.pointer none)) (go_keep)
    (first
      | (go_at_call 10
         (refine (HF.out _).mono ?_)
         rintro e w_2 ⟨rfl, hb2⟩
         have HB2 : Hid (Below W.heap.size W w_2) := Lib.hid (HB1.out.trans (hb2.mono HB1.out.size))
         obtain ⟨k2_0, k2_1, k2_2, k2_3, k2_4, k2_5, k2_6, k2_7, k2_8⟩ := HK.out.below HB2.out (by have := HSW.out; omega)
         clear hb2 k1_0 k1_1 k1_2 k1_3 k1_4 k1_5 k1_6 k1_7 k1_8)
      | (go_at_call 20
         (refine (HB.out _).mono ?_)
         rintro e w_1 ⟨rfl, hb1⟩
         have HB1 : Hid (Below W.heap.size W w_1) := Lib.hid ((Below.refl W.heap.size W).drew.trans hb1)
         obtain ⟨k1_0, k1_1, k1_2, k1_3, k1_4, k1_5, k1_6, k1_7, k1_8⟩ := HK.out.below HB1.out (by have := HSW.out; omega)
         clear hb1 k0_0 k0_1 k0_2 k0_3 k0_4 k0_5 k0_6 k0_7 k0_8))
  have hbw := HBW.out.trans (HB2.out.mono (by have := HSW.out; omega))
  go_wp2
  go_ret2
  exact ⟨rfl, hbw⟩

set_option maxHeartbeats 2000000 in
theorem rbin_quo {sz : Nat} (h : szOk sz) (sg : Bool) (a b : Int) (hb0 : -9223372036854775808 ≤ b) (hb1 : b ≤ 9223372036854775807) (ha : isFit sz sg a) (w : World) : Calls Try.prog 12 #[.string ⟨#[47]⟩, tV sz sg, .int .i64 a, .int .i64 b] w (PairIs (quoR sz sg a b) (divOk sz sg a b) w) := by
  have HQ := Lib.hid (rquo_any h sg a b hb0 hb1 ha)
  clear ha
  rw [show tV sz sg = .agg #[.int .i64 1, .int .i64 sz, .bool sg, .bool false, .pointer none, .int .i64 0, .int .i64 0, .slice none 0 0, .pointer none] from rfl] at HQ ⊢
  go_enter Try.func12, Try.ntmps12
  go_wp2_with fail
  refine (HQ.out _).mono ?_
  rintro e w1 ⟨rfl, hc1⟩
  obtain ⟨hc, hf⟩ := bcell hc1
  go_wp2_with fail
  go_ret2
  exact ⟨rfl, ((Below.refl _ _).alloc (Nat.le_refl _) _).trans (hc1.mono (by simp))⟩

set_option maxHeartbeats 2000000 in
theorem rbin_rem {sz : Nat} (h : szOk sz) (sg : Bool) (a b : Int) (hb0 : -9223372036854775808 ≤ b) (hb1 : b ≤ 9223372036854775807) (ha : isFit sz sg a) (w : World) : Calls Try.prog 12 #[.string ⟨#[37]⟩, tV sz sg, .int .i64 a, .int .i64 b] w (PairIs (remR sz sg a b) (divOk sz sg a b) w) := by
  have HQ := Lib.hid (rrem_any h sg a b hb0 hb1 ha)
  clear ha
  rw [show tV sz sg = .agg #[.int .i64 1, .int .i64 sz, .bool sg, .bool false, .pointer none, .int .i64 0, .int .i64 0, .slice none 0 0, .pointer none] from rfl] at HQ ⊢
  go_enter Try.func12, Try.ntmps12
  go_wp2_with fail
  refine (HQ.out _).mono ?_
  rintro e w1 ⟨rfl, hc1⟩
  obtain ⟨hc, hf⟩ := bcell hc1
  go_wp2_with fail
  go_ret2
  exact ⟨rfl, ((Below.refl _ _).alloc (Nat.le_refl _) _).trans (hc1.mono (by simp))⟩

set_option maxHeartbeats 2000000 in
theorem rbin_eq (sz : Nat) (sg : Bool) (a b : Int) (w : World) : Calls Try.prog 12 #[.string ⟨#[61, 61]⟩, tV sz sg, .int .i64 a, .int .i64 b] w (PairIs 0 false w) := by
  rw [show tV sz sg = .agg #[.int .i64 1, .int .i64 sz, .bool sg, .bool false, .pointer none, .int .i64 0, .int .i64 0, .slice none 0 0, .pointer none] from rfl]
  go_enter Try.func12, Try.ntmps12
  go_wp2
  go_ret2
  exact ⟨rfl, (Below.refl _ _).alloc (Nat.le_refl _) _⟩

set_option maxHeartbeats 2000000 in
theorem rbin_what (sz : Nat) (sg : Bool) (a b : Int) (w : World) : Calls Try.prog 12 #[.string ⟨#[63]⟩, tV sz sg, .int .i64 a, .int .i64 b] w (PairIs 0 false w) := by
  rw [show tV sz sg = .agg #[.int .i64 1, .int .i64 sz, .bool sg, .bool false, .pointer none, .int .i64 0, .int .i64 0, .slice none 0 0, .pointer none] from rfl]
  go_enter Try.func12, Try.ntmps12
  go_wp2
  go_ret2
  exact ⟨rfl, (Below.refl _ _).alloc (Nat.le_refl _) _⟩
end Go.Proofs.Ytbflijjkdndefaa
