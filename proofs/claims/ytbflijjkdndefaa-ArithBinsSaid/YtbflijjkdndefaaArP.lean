import Derived.Test.YtbflijjkdndefaaArO
namespace Go.Proofs.Ytbflijjkdndefaa
open Go Go.RowKit
set_option linter.unusedVariables false
set_option linter.unusedSimpArgs false

theorem fit_lt {sz : Nat} (h : szOk sz) (a : Int) (ha : isFit sz false a) : a % 18446744073709551616 < 2 ^ (8 * sz) := by
  have h1 := fitZ_f h a
  rw [show fitZ sz false a = a from ha] at h1
  rw [h1]
  exact Int.emod_lt_of_pos _ (pow2_pos _)
theorem quo_fit {sz : Nat} (h : szOk sz) (a b : Int) (ha : isFit sz false a) : fitZ sz false (wrap64 (a % 18446744073709551616 / (b % 18446744073709551616))) = wrap64 (a % 18446744073709551616 / (b % 18446744073709551616)) := by
  rw [fitZ_w64 h]
  have h1 := fit_lt h a ha
  have h0 : 0 ≤ a % 18446744073709551616 := Int.emod_nonneg _ (by decide)
  have hb : 0 ≤ b % 18446744073709551616 := Int.emod_nonneg _ (by decide)
  have h2 := Int.ediv_le_self (b % 18446744073709551616) h0
  exact fitZ_in h _ (Int.ediv_nonneg h0 hb) (by omega)
theorem rem_fit {sz : Nat} (h : szOk sz) (a b : Int) (ha : isFit sz false a) : fitZ sz false (wrap64 (a % 18446744073709551616 % (b % 18446744073709551616))) = wrap64 (a % 18446744073709551616 % (b % 18446744073709551616)) := by
  rw [fitZ_w64 h]
  have h1 := fit_lt h a ha
  have h0 : 0 ≤ a % 18446744073709551616 := Int.emod_nonneg _ (by decide)
  by_cases hz : b % 18446744073709551616 = 0
  · rw [hz, Int.emod_zero]; exact fitZ_in h _ h0 h1
  · have hb : 0 ≤ b % 18446744073709551616 := Int.emod_nonneg _ (by decide)
    have h2 := Int.emod_nonneg (a % 18446744073709551616) hz
    have h3 : a % 18446744073709551616 % (b % 18446744073709551616) ≤ a % 18446744073709551616 := by
      have e := Int.emod_add_mul_ediv (a % 18446744073709551616) (b % 18446744073709551616)
      have := Int.mul_nonneg hb (Int.ediv_nonneg h0 hb)
      omega
    exact fitZ_in h _ h2 (by omega)
theorem fitZ_wmul {sz : Nat} (h : szOk sz) (sg : Bool) (a q b : Int) : fitZ sz sg (wrap64 (a - wrap64 (wrap64 q * b))) = fitZ sz sg (a - q * b) := by
  rw [fitZ_w64 h]
  have e1 : ∀ x : Int, ∃ k, wrap64 x = x + 18446744073709551616 * k := fun x => ⟨-((x + 9223372036854775808) / 18446744073709551616), by rw [w64]; omega⟩
  obtain ⟨k, hk⟩ := e1 q
  obtain ⟨j, hj⟩ := e1 (wrap64 q * b)
  rw [hj, hk, show a - ((q + 18446744073709551616 * k) * b + 18446744073709551616 * j) = a - q * b + 18446744073709551616 * (-(k * b) - j) from by
    rw [Int.add_mul, Int.mul_assoc]; omega, fitZ_wrap h]
theorem rem_mod {sz : Nat} (h : szOk sz) (a b : Int) : fitZ sz true (wrap64 (a - wrap64 (wrap64 (a.tdiv b) * b))) = fitZ sz true (remZ true a b) := by
  rw [fitZ_wmul h]
  have := Int.tmod_add_mul_tdiv a b
  rw [Int.mul_comm (a.tdiv b), show remZ true a b = a.tmod b from rfl, show a - b * a.tdiv b = a.tmod b by omega]
theorem u_rem (a b : Int) : (a - wrap64 (a.tdiv b) * b) - a.tmod b = (a.tdiv b - wrap64 (a.tdiv b)) * b := by
  have := Int.tmod_add_mul_tdiv a b
  rw [Int.sub_mul]
  have e : b * a.tdiv b = a.tdiv b * b := Int.mul_comm _ _
  omega

set_option maxHeartbeats 1000000 in
theorem rquo_0 (sz : Nat) (sg : Bool) (a : Int) (w : World) : Calls Try.prog 23 #[.string ⟨#[47]⟩, tV sz sg, .int .i64 a, .int .i64 0] w (PairIs 0 false w) := by
  rw [show tV sz sg = .agg #[.int .i64 1, .int .i64 sz, .bool sg, .bool false, .pointer none, .int .i64 0, .int .i64 0, .slice none 0 0, .pointer none] from rfl]
  go_enter Try.func23, Try.ntmps23
  go_wp2
  go_ret2
  exact ⟨rfl, (Below.refl _ _).alloc (Nat.le_refl _) _⟩

set_option maxHeartbeats 1000000 in
theorem rquo_u {sz : Nat} (h : szOk sz) (a b : Int) (hb : ¬ b = 0) (hb0 : -9223372036854775808 ≤ b) (hb1 : b ≤ 9223372036854775807) (ha : isFit sz false a) (w : World) : Calls Try.prog 23 #[.string ⟨#[47]⟩, tV sz false, .int .i64 a, .int .i64 b] w (PairIs (fitZ sz false (quoZ false a b)) true w) := by
  rw [show fitZ sz false (quoZ false a b) = wrap64 (a % 18446744073709551616 / (b % 18446744073709551616)) from quo_fit h a b ha]
  rw [show tV sz false = .agg #[.int .i64 1, .int .i64 sz, .bool false, .bool false, .pointer none, .int .i64 0, .int .i64 0, .slice none 0 0, .pointer none] from rfl]
  have hq : (b == 0) = false := by simpa using hb
  have hu : ¬ IntKind.u64.wrap b = 0 := by rw [wu64]; omega
  have HB := Lib.hid hb
  clear hb ha
  go_enter Try.func23, Try.ntmps23
  go_wp2
  go_ret2
  refine ⟨ret_pair ?_ rfl, (Below.refl _ _).alloc (Nat.le_refl _) _⟩
  simp only [wu64]
  rw [Int.tdiv_eq_ediv_of_nonneg (Int.emod_nonneg _ (by decide))]; simp only [w64]; omega

set_option maxHeartbeats 1000000 in
theorem rquo_o (w : World) : Calls Try.prog 23 #[.string ⟨#[47]⟩, tV 8 true, .int .i64 (-9223372036854775808), .int .i64 (-1)] w (PairIs 0 false w) := by
  rw [tV_8]
  go_enter Try.func23, Try.ntmps23
  go_wp2
  go_ret2
  exact ⟨rfl, (Below.refl _ _).alloc (Nat.le_refl _) _⟩


set_option maxHeartbeats 2000000 in
theorem rquo_sa {sz : Nat} (h : szOk sz) (a b : Int) (hb : ¬ b = 0) (h8 : ((sz : Int) == 8) = false) (w : World) : Calls Try.prog 23 #[.string ⟨#[47]⟩, tV sz true, .int .i64 a, .int .i64 b] w (PairIs (fitZ sz true (quoZ true a b)) true w) := by
  rw [show tV sz true = .agg #[.int .i64 1, .int .i64 sz, .bool true, .bool false, .pointer none, .int .i64 0, .int .i64 0, .slice none 0 0, .pointer none] from rfl]
  have hq : (b == 0) = false := by simpa using hb
  have HB := Lib.hid hb
  clear hb
  go_enter Try.func23, Try.ntmps23
  go_wp2_with fail
  refine (rfit_any h true _ (w64_lo _) (w64_hi _) _).mono ?_
  rintro e w1 ⟨rfl, hb1⟩
  obtain ⟨hc, hf⟩ := bcell hb1
  go_wp2_with fail
  go_ret2
  refine ⟨ret_pair ?_ rfl, ((Below.refl _ _).alloc (Nat.le_refl _) _).trans (hb1.mono (by simp))⟩
  simp [quoZ]

set_option maxHeartbeats 2000000 in
theorem rquo_sb (a b : Int) (hb : ¬ b = 0) (h8 : (b == -1) = false) (w : World) : Calls Try.prog 23 #[.string ⟨#[47]⟩, tV 8 true, .int .i64 a, .int .i64 b] w (PairIs (fitZ 8 true (quoZ true a b)) true w) := by
  rw [show tV 8 true = .agg #[.int .i64 1, .int .i64 8, .bool true, .bool false, .pointer none, .int .i64 0, .int .i64 0, .slice none 0 0, .pointer none] from rfl]
  have hq : (b == 0) = false := by simpa using hb
  have HB := Lib.hid hb
  clear hb
  go_enter Try.func23, Try.ntmps23
  go_wp2_with fail
  refine (rfit_any szOk8 true _ (w64_lo _) (w64_hi _) _).mono ?_
  rintro e w1 ⟨rfl, hb1⟩
  obtain ⟨hc, hf⟩ := bcell hb1
  go_wp2_with fail
  go_ret2
  refine ⟨ret_pair ?_ rfl, ((Below.refl _ _).alloc (Nat.le_refl _) _).trans (hb1.mono (by simp))⟩
  simp [quoZ]

set_option maxHeartbeats 2000000 in
theorem rquo_sc (a : Int) (h8 : (a == -9223372036854775808) = false) (w : World) : Calls Try.prog 23 #[.string ⟨#[47]⟩, tV 8 true, .int .i64 a, .int .i64 (-1)] w (PairIs (fitZ 8 true (quoZ true a (-1))) true w) := by
  rw [show tV 8 true = .agg #[.int .i64 1, .int .i64 8, .bool true, .bool false, .pointer none, .int .i64 0, .int .i64 0, .slice none 0 0, .pointer none] from rfl]
  go_enter Try.func23, Try.ntmps23
  go_wp2_with fail
  refine (rfit_any szOk8 true _ (w64_lo _) (w64_hi _) _).mono ?_
  rintro e w1 ⟨rfl, hb1⟩
  obtain ⟨hc, hf⟩ := bcell hb1
  go_wp2_with fail
  go_ret2
  refine ⟨ret_pair ?_ rfl, ((Below.refl _ _).alloc (Nat.le_refl _) _).trans (hb1.mono (by simp))⟩
  simp [quoZ]

theorem rquo_any {sz : Nat} (h : szOk sz) (sg : Bool) (a b : Int) (hb0 : -9223372036854775808 ≤ b) (hb1 : b ≤ 9223372036854775807) (ha : isFit sz sg a) (w : World) : Calls Try.prog 23 #[.string ⟨#[47]⟩, tV sz sg, .int .i64 a, .int .i64 b] w (PairIs (quoR sz sg a b) (divOk sz sg a b) w) := by
  by_cases hz : b = 0
  · subst hz
    rw [show quoR sz sg a 0 = 0 from rfl, show divOk sz sg a 0 = false from rfl]
    exact rquo_0 sz sg a w
  · have hz' : (b == 0) = false := by simpa using hz
    cases ho : over sz sg a b with
    | true =>
      have e1 : quoR sz sg a b = 0 := by simp [quoR, ho]
      have e3 : divOk sz sg a b = false := by simp [divOk, ho]
      rw [e1, e3]
      unfold over at ho
      simp only [Bool.and_eq_true, beq_iff_eq] at ho
      obtain ⟨⟨⟨rfl, rfl⟩, rfl⟩, rfl⟩ := ho
      exact rquo_o w
    | false =>
      have e1 : quoR sz sg a b = fitZ sz sg (quoZ sg a b) := by simp [quoR, ho, hz']
      have e3 : divOk sz sg a b = true := by simp [divOk, ho, hz']
      rw [e1, e3]
      cases sg
      · exact rquo_u h a b hz hb0 hb1 ha w
      · by_cases h8 : sz = 8
        · subst h8
          by_cases h1 : b = -1
          · subst h1
            exact rquo_sc a (by simpa [over] using ho) w
          · exact rquo_sb a b hz (by simpa using h1) w
        · exact rquo_sa h a b hz (by simp; omega) w

set_option maxHeartbeats 1000000 in
theorem rrem_0 (sz : Nat) (sg : Bool) (a : Int) (w : World) : Calls Try.prog 23 #[.string ⟨#[37]⟩, tV sz sg, .int .i64 a, .int .i64 0] w (PairIs 0 false w) := by
  rw [show tV sz sg = .agg #[.int .i64 1, .int .i64 sz, .bool sg, .bool false, .pointer none, .int .i64 0, .int .i64 0, .slice none 0 0, .pointer none] from rfl]
  go_enter Try.func23, Try.ntmps23
  go_wp2
  go_ret2
  exact ⟨rfl, (Below.refl _ _).alloc (Nat.le_refl _) _⟩

set_option maxHeartbeats 1000000 in
theorem rrem_u {sz : Nat} (h : szOk sz) (a b : Int) (hb : ¬ b = 0) (hb0 : -9223372036854775808 ≤ b) (hb1 : b ≤ 9223372036854775807) (ha : isFit sz false a) (w : World) : Calls Try.prog 23 #[.string ⟨#[37]⟩, tV sz false, .int .i64 a, .int .i64 b] w (PairIs (fitZ sz false (remZ false a b)) true w) := by
  rw [show fitZ sz false (remZ false a b) = wrap64 (a % 18446744073709551616 % (b % 18446744073709551616)) from rem_fit h a b ha]
  rw [show tV sz false = .agg #[.int .i64 1, .int .i64 sz, .bool false, .bool false, .pointer none, .int .i64 0, .int .i64 0, .slice none 0 0, .pointer none] from rfl]
  have hq : (b == 0) = false := by simpa using hb
  have hu : ¬ IntKind.u64.wrap b = 0 := by rw [wu64]; omega
  have HB := Lib.hid hb
  clear hb ha
  go_enter Try.func23, Try.ntmps23
  go_wp2
  go_ret2
  refine ⟨ret_pair ?_ rfl, (Below.refl _ _).alloc (Nat.le_refl _) _⟩
  simp only [wu64]
  have e := Int.emod_add_mul_ediv (a % 18446744073709551616) (b % 18446744073709551616)
  have h0 : 0 ≤ a % 18446744073709551616 := Int.emod_nonneg _ (by decide)
  rw [Int.tdiv_eq_ediv_of_nonneg h0]
  rw [Int.mul_comm] at e
  simp only [w64]
  generalize a % 18446744073709551616 = A at *
  generalize b % 18446744073709551616 = B at *
  have e9 : A / B % 18446744073709551616 * B % 18446744073709551616 = A / B * B % 18446744073709551616 := by rw [Int.mul_emod, Int.emod_emod_of_dvd _ (Int.dvd_refl _), ← Int.mul_emod]
  generalize A / B * B = Q at *
  generalize A % B = M at *
  omega

set_option maxHeartbeats 1000000 in
theorem rrem_o (w : World) : Calls Try.prog 23 #[.string ⟨#[37]⟩, tV 8 true, .int .i64 (-9223372036854775808), .int .i64 (-1)] w (PairIs 0 false w) := by
  rw [tV_8]
  go_enter Try.func23, Try.ntmps23
  go_wp2
  go_ret2
  exact ⟨rfl, (Below.refl _ _).alloc (Nat.le_refl _) _⟩


set_option maxHeartbeats 2000000 in
theorem rrem_sa {sz : Nat} (h : szOk sz) (a b : Int) (hb : ¬ b = 0) (h8 : ((sz : Int) == 8) = false) (w : World) : Calls Try.prog 23 #[.string ⟨#[37]⟩, tV sz true, .int .i64 a, .int .i64 b] w (PairIs (fitZ sz true (remZ true a b)) true w) := by
  rw [show tV sz true = .agg #[.int .i64 1, .int .i64 sz, .bool true, .bool false, .pointer none, .int .i64 0, .int .i64 0, .slice none 0 0, .pointer none] from rfl]
  have hq : (b == 0) = false := by simpa using hb
  have HB := Lib.hid hb
  clear hb
  go_enter Try.func23, Try.ntmps23
  go_wp2_with fail
  refine (rfit_any h true _ (w64_lo _) (w64_hi _) _).mono ?_
  rintro e w1 ⟨rfl, hb1⟩
  obtain ⟨hc, hf⟩ := bcell hb1
  go_wp2_with fail
  go_ret2
  refine ⟨ret_pair ?_ rfl, ((Below.refl _ _).alloc (Nat.le_refl _) _).trans (hb1.mono (by simp))⟩
  first | exact rem_mod h a b | (have e9 := rem_mod h a b; simp at e9 ⊢; exact e9)

set_option maxHeartbeats 2000000 in
theorem rrem_sb (a b : Int) (hb : ¬ b = 0) (h8 : (b == -1) = false) (w : World) : Calls Try.prog 23 #[.string ⟨#[37]⟩, tV 8 true, .int .i64 a, .int .i64 b] w (PairIs (fitZ 8 true (remZ true a b)) true w) := by
  rw [show tV 8 true = .agg #[.int .i64 1, .int .i64 8, .bool true, .bool false, .pointer none, .int .i64 0, .int .i64 0, .slice none 0 0, .pointer none] from rfl]
  have hq : (b == 0) = false := by simpa using hb
  have HB := Lib.hid hb
  clear hb
  go_enter Try.func23, Try.ntmps23
  go_wp2_with fail
  refine (rfit_any szOk8 true _ (w64_lo _) (w64_hi _) _).mono ?_
  rintro e w1 ⟨rfl, hb1⟩
  obtain ⟨hc, hf⟩ := bcell hb1
  go_wp2_with fail
  go_ret2
  refine ⟨ret_pair ?_ rfl, ((Below.refl _ _).alloc (Nat.le_refl _) _).trans (hb1.mono (by simp))⟩
  first | exact rem_mod szOk8 a b | (have e9 := rem_mod szOk8 a b; simp at e9 ⊢; exact e9)

set_option maxHeartbeats 2000000 in
theorem rrem_sc (a : Int) (h8 : (a == -9223372036854775808) = false) (w : World) : Calls Try.prog 23 #[.string ⟨#[37]⟩, tV 8 true, .int .i64 a, .int .i64 (-1)] w (PairIs (fitZ 8 true (remZ true a (-1))) true w) := by
  rw [show tV 8 true = .agg #[.int .i64 1, .int .i64 8, .bool true, .bool false, .pointer none, .int .i64 0, .int .i64 0, .slice none 0 0, .pointer none] from rfl]
  go_enter Try.func23, Try.ntmps23
  go_wp2_with fail
  refine (rfit_any szOk8 true _ (w64_lo _) (w64_hi _) _).mono ?_
  rintro e w1 ⟨rfl, hb1⟩
  obtain ⟨hc, hf⟩ := bcell hb1
  go_wp2_with fail
  go_ret2
  refine ⟨ret_pair ?_ rfl, ((Below.refl _ _).alloc (Nat.le_refl _) _).trans (hb1.mono (by simp))⟩
  first | exact rem_mod szOk8 a (-1) | (have e9 := rem_mod szOk8 a (-1); simp at e9 ⊢; exact e9)

theorem rrem_any {sz : Nat} (h : szOk sz) (sg : Bool) (a b : Int) (hb0 : -9223372036854775808 ≤ b) (hb1 : b ≤ 9223372036854775807) (ha : isFit sz sg a) (w : World) : Calls Try.prog 23 #[.string ⟨#[37]⟩, tV sz sg, .int .i64 a, .int .i64 b] w (PairIs (remR sz sg a b) (divOk sz sg a b) w) := by
  by_cases hz : b = 0
  · subst hz
    rw [show remR sz sg a 0 = 0 from rfl, show divOk sz sg a 0 = false from rfl]
    exact rrem_0 sz sg a w
  · have hz' : (b == 0) = false := by simpa using hz
    cases ho : over sz sg a b with
    | true =>
      have e1 : remR sz sg a b = 0 := by simp [remR, ho]
      have e3 : divOk sz sg a b = false := by simp [divOk, ho]
      rw [e1, e3]
      unfold over at ho
      simp only [Bool.and_eq_true, beq_iff_eq] at ho
      obtain ⟨⟨⟨rfl, rfl⟩, rfl⟩, rfl⟩ := ho
      exact rrem_o w
    | false =>
      have e1 : remR sz sg a b = fitZ sz sg (remZ sg a b) := by simp [remR, ho, hz']
      have e3 : divOk sz sg a b = true := by simp [divOk, ho, hz']
      rw [e1, e3]
      cases sg
      · exact rrem_u h a b hz hb0 hb1 ha w
      · by_cases h8 : sz = 8
        · subst h8
          by_cases h1 : b = -1
          · subst h1
            exact rrem_sc a (by simpa [over] using ho) w
          · exact rrem_sb a b hz (by simpa using h1) w
        · exact rrem_sa h a b hz (by simp; omega) w
end Go.Proofs.Ytbflijjkdndefaa
