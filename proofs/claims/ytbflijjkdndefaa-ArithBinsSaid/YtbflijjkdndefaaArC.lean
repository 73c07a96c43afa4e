import Derived.Test.YtbflijjkdndefaaArB
namespace Go.Proofs.Ytbflijjkdndefaa
open Go Go.RowKit
set_option linter.unusedVariables false
set_option linter.unusedSimpArgs false

theorem below_drewN {B : Nat} {a w : World} (h : Below B a w) (q : Nat) : Below B a (w.drewN q) := ⟨h.os, h.tape, h.output, h.size, h.block⟩

/-- Is the quotient defined? -/
def over (sz : Nat) (sg : Bool) (a b : Int) : Bool := sg && sz == 8 && a == -9223372036854775808 && b == -1
def quoZ (sg : Bool) (a b : Int) : Int := if sg then wrap64 (a.tdiv b) else wrap64 (a % 18446744073709551616 / (b % 18446744073709551616))
def remZ (sg : Bool) (a b : Int) : Int := if sg then a.tmod b else wrap64 (a % 18446744073709551616 % (b % 18446744073709551616))
def DivIs (q r : Int) (ok : Bool) (w : World) (e : Ending) (w' : World) : Prop := e = .returned (.tuple #[.int .i64 q, .int .i64 r, .bool ok]) ∧ Below w.heap.size w w'

set_option maxHeartbeats 1000000 in
theorem divide_0 (sz : Nat) (sg : Bool) (a : Int) (w : World) : Calls Try.prog 19 #[tV sz sg, .int .i64 a, .int .i64 0] w (DivIs 0 0 false w) := by
  rw [show tV sz sg = .agg #[.int .i64 1, .int .i64 sz, .bool sg, .bool false, .pointer none, .int .i64 0, .int .i64 0, .slice none 0 0, .pointer none] from rfl]
  go_enter Try.func19, Try.ntmps19
  go_wp2
  refine bodyPost_ret (v := .tuple #[.int .i64 0, .int .i64 0, .bool false]) ?_ rfl ⟨rfl, ?_⟩
  · simp [results, Try.results19, go_sem]
  · exact ((Below.refl _ _).alloc (Nat.le_refl _) _)

set_option maxHeartbeats 1000000 in
theorem divide_u (sz : Nat) (a b : Int) (hb : ¬ b = 0) (hb0 : -9223372036854775808 ≤ b) (hb1 : b ≤ 9223372036854775807) (w : World) : Calls Try.prog 19 #[tV sz false, .int .i64 a, .int .i64 b] w (DivIs (quoZ false a b) (remZ false a b) true w) := by
  rw [show tV sz false = .agg #[.int .i64 1, .int .i64 sz, .bool false, .bool false, .pointer none, .int .i64 0, .int .i64 0, .slice none 0 0, .pointer none] from rfl]
  have hq : (b == 0) = false := by simpa using hb
  have hu : ¬ IntKind.u64.wrap b = 0 := by rw [wu64]; omega
  have HB := Lib.hid hb
  clear hb
  go_enter Try.func19, Try.ntmps19
  go_wp2
  go_quiet (fail)
  go_wp2
  refine bodyPost_ret (v := .tuple #[.int .i64 (quoZ false a b), .int .i64 (remZ false a b), .bool true]) ?_ rfl ⟨rfl, ?_⟩
  · simp [results, Try.results19, go_sem]
    simp only [quoZ, remZ, wu64]
    rw [Int.tmod_eq_emod_of_nonneg (Int.emod_nonneg _ (by decide)), Int.tdiv_eq_ediv_of_nonneg (Int.emod_nonneg _ (by decide)), w64, w64, w64, w64]
    refine ⟨?_, by simp⟩
    simp
  · exact below_drewN ((Below.refl _ _).alloc (Nat.le_refl _) _) _

set_option maxHeartbeats 1000000 in
theorem divide_o (w : World) : Calls Try.prog 19 #[tV 8 true, .int .i64 (-9223372036854775808), .int .i64 (-1)] w (DivIs 0 0 false w) := by
  rw [tV_8]
  go_enter Try.func19, Try.ntmps19
  go_wp2_with (go_at_call 24; refine (bits_any szOk8 true _).mono ?_; rintro e w1 ⟨rfl, hb1⟩; obtain ⟨hc, hf⟩ := bcell hb1; simp only [show bitZ 8 = 64 from rfl])
  refine bodyPost_ret (v := .tuple #[.int .i64 0, .int .i64 0, .bool false]) ?_ rfl ⟨rfl, ?_⟩
  · simp [results, Try.results19, go_sem]
  · exact ((Below.refl _ _).alloc (Nat.le_refl _) _).trans (hb1.mono (by simp))

theorem over_out {sz : Nat} (h : szOk sz) {a b : Int} (ho : over sz true a b = false) : ¬ (bitZ sz = 64 ∧ a = -9223372036854775808 ∧ b = -1) := by
  rintro ⟨h1, rfl, rfl⟩
  rcases h with rfl | rfl | rfl | rfl
  · cases h1
  · cases h1
  · cases h1
  · cases ho

set_option maxHeartbeats 2000000 in
theorem divide_s {sz : Nat} (h : szOk sz) (a b : Int) (hb : ¬ b = 0) (ho : over sz true a b = false) (w : World) : Calls Try.prog 19 #[tV sz true, .int .i64 a, .int .i64 b] w (DivIs (quoZ true a b) (remZ true a b) true w) := by
  rw [show tV sz true = .agg #[.int .i64 1, .int .i64 sz, .bool true, .bool false, .pointer none, .int .i64 0, .int .i64 0, .slice none 0 0, .pointer none] from rfl]
  have hq : (b == 0) = false := by simpa using hb
  have HO := Lib.hid (over_out h ho)
  clear ho
  go_enter Try.func19, Try.ntmps19
  go_wp2_with (go_at_call 24; refine (bits_any h true _).mono ?_; rintro e w1 ⟨rfl, hb1⟩; obtain ⟨hc, hf⟩ := bcell hb1)
  all_goals first
    | (exfalso; have h9 := HO.out; simp_all; done)
    | (go_quiet (fail)
       go_wp2
       refine bodyPost_ret (v := .tuple #[.int .i64 (quoZ true a b), .int .i64 (remZ true a b), .bool true]) ?_ rfl ⟨rfl, ?_⟩
       · first | (subst_vars; simp [results, Try.results19, go_sem, quoZ, remZ]; done) | (simp_all [results, Try.results19, go_sem, quoZ, remZ]; done) | (simp_all [results, Try.results19, go_sem, quoZ, remZ]; exact (Int.tmod_eq_emod_of_nonneg (by decide)).symm)
       · exact below_drewN (((Below.refl _ _).alloc (Nat.le_refl _) _).trans (hb1.mono (by simp))) _)

/-- The comparison, as the type has it. -/
def ordZ (sg : Bool) (a b : Int) : Int := if sg then cmpZ a b else cmpZ (a % 18446744073709551616) (b % 18446744073709551616)

set_option maxHeartbeats 1000000 in
theorem cmp_any (sz : Nat) (sg : Bool) (a b : Int) (w : World) : Calls Try.prog 25 #[tV sz sg, .int .i64 a, .int .i64 b] w (IntIs .i64 (ordZ sg a b) w) := by
  rw [show tV sz sg = .agg #[.int .i64 1, .int .i64 sz, .bool sg, .bool false, .pointer none, .int .i64 0, .int .i64 0, .slice none 0 0, .pointer none] from rfl]
  cases sg
  · go_enter Try.func25, Try.ntmps25
    go_wp2_with (go_at_call 27; refine (compare_u _ _ _).mono ?_; rintro e w1 ⟨rfl, rfl⟩)
    go_ret
    exact ⟨ret_int (by simp [ordZ, wu64]), (Below.refl _ _).alloc (Nat.le_refl _) _⟩
  · go_enter Try.func25, Try.ntmps25
    go_wp2_with (go_at_call 26; refine (compare_i _ _ _).mono ?_; rintro e w1 ⟨rfl, rfl⟩)
    go_ret
    exact ⟨ret_int (by simp [ordZ]), (Below.refl _ _).alloc (Nat.le_refl _) _⟩

/-- What Cmp says, by the comparison's name: 0 ==, 1 !=, 2 <, 3 >, 4 <=, 5 >=, else nothing. -/
def cmpName (k : Nat) : ByteArray := if k = 0 then ⟨#[61, 61]⟩ else if k = 1 then ⟨#[33, 61]⟩ else if k = 2 then ⟨#[60]⟩ else if k = 3 then ⟨#[62]⟩ else if k = 4 then ⟨#[60, 61]⟩ else if k = 5 then ⟨#[62, 61]⟩ else ⟨#[43]⟩
def cmpYes (k : Nat) (o : Int) : Bool := if k = 0 then o == 0 else if k = 1 then o != 0 else if k = 2 then decide (o < 0) else if k = 3 then decide (0 < o) else if k = 4 then decide (o ≤ 0) else if k = 5 then decide (0 ≤ o) else false

set_option maxHeartbeats 2000000 in
theorem Cmp_0 (sz : Nat) (sg : Bool) (a b : Int) (w : World) : Calls Try.prog 14 #[.string ⟨#[61, 61]⟩, tV sz sg, .int .i64 a, .int .i64 b] w (IntIs .i64 (bitI (cmpYes 0 (ordZ sg a b))) w) := by
  rw [show tV sz sg = .agg #[.int .i64 1, .int .i64 sz, .bool sg, .bool false, .pointer none, .int .i64 0, .int .i64 0, .slice none 0 0, .pointer none] from rfl]
  go_enter Try.func14, Try.ntmps14
  go_wp2_with (first | (go_at_call 25; refine (cmp_any sz sg _ _ _).mono ?_; rintro e w1 ⟨rfl, hb1⟩; obtain ⟨hc, hf⟩ := bcell hb1) | (go_at_call 16; refine (bool_any _ _).mono ?_; rintro e w2 ⟨rfl, rfl⟩))
  go_ret
  exact ⟨ret_int (by first | (simp [cmpYes]; done) | (simp [cmpYes, bitI]; done)), ((Below.refl _ _).alloc (Nat.le_refl _) _).trans (hb1.mono (by simp))⟩

set_option maxHeartbeats 2000000 in
theorem Cmp_1 (sz : Nat) (sg : Bool) (a b : Int) (w : World) : Calls Try.prog 14 #[.string ⟨#[33, 61]⟩, tV sz sg, .int .i64 a, .int .i64 b] w (IntIs .i64 (bitI (cmpYes 1 (ordZ sg a b))) w) := by
  rw [show tV sz sg = .agg #[.int .i64 1, .int .i64 sz, .bool sg, .bool false, .pointer none, .int .i64 0, .int .i64 0, .slice none 0 0, .pointer none] from rfl]
  go_enter Try.func14, Try.ntmps14
  go_wp2_with (first | (go_at_call 25; refine (cmp_any sz sg _ _ _).mono ?_; rintro e w1 ⟨rfl, hb1⟩; obtain ⟨hc, hf⟩ := bcell hb1) | (go_at_call 16; refine (bool_any _ _).mono ?_; rintro e w2 ⟨rfl, rfl⟩))
  go_ret
  exact ⟨ret_int (by first | (simp [cmpYes]; done) | (simp [cmpYes, bitI]; done)), ((Below.refl _ _).alloc (Nat.le_refl _) _).trans (hb1.mono (by simp))⟩

set_option maxHeartbeats 2000000 in
theorem Cmp_2 (sz : Nat) (sg : Bool) (a b : Int) (w : World) : Calls Try.prog 14 #[.string ⟨#[60]⟩, tV sz sg, .int .i64 a, .int .i64 b] w (IntIs .i64 (bitI (cmpYes 2 (ordZ sg a b))) w) := by
  rw [show tV sz sg = .agg #[.int .i64 1, .int .i64 sz, .bool sg, .bool false, .pointer none, .int .i64 0, .int .i64 0, .slice none 0 0, .pointer none] from rfl]
  go_enter Try.func14, Try.ntmps14
  go_wp2_with (first | (go_at_call 25; refine (cmp_any sz sg _ _ _).mono ?_; rintro e w1 ⟨rfl, hb1⟩; obtain ⟨hc, hf⟩ := bcell hb1) | (go_at_call 16; refine (bool_any _ _).mono ?_; rintro e w2 ⟨rfl, rfl⟩))
  go_ret
  exact ⟨ret_int (by first | (simp [cmpYes]; done) | (simp [cmpYes, bitI]; done)), ((Below.refl _ _).alloc (Nat.le_refl _) _).trans (hb1.mono (by simp))⟩

set_option maxHeartbeats 2000000 in
theorem Cmp_3 (sz : Nat) (sg : Bool) (a b : Int) (w : World) : Calls Try.prog 14 #[.string ⟨#[62]⟩, tV sz sg, .int .i64 a, .int .i64 b] w (IntIs .i64 (bitI (cmpYes 3 (ordZ sg a b))) w) := by
  rw [show tV sz sg = .agg #[.int .i64 1, .int .i64 sz, .bool sg, .bool false, .pointer none, .int .i64 0, .int .i64 0, .slice none 0 0, .pointer none] from rfl]
  go_enter Try.func14, Try.ntmps14
  go_wp2_with (first | (go_at_call 25; refine (cmp_any sz sg _ _ _).mono ?_; rintro e w1 ⟨rfl, hb1⟩; obtain ⟨hc, hf⟩ := bcell hb1) | (go_at_call 16; refine (bool_any _ _).mono ?_; rintro e w2 ⟨rfl, rfl⟩))
  go_ret
  exact ⟨ret_int (by first | (simp [cmpYes]; done) | (simp [cmpYes, bitI]; done)), ((Below.refl _ _).alloc (Nat.le_refl _) _).trans (hb1.mono (by simp))⟩

set_option maxHeartbeats 2000000 in
theorem Cmp_4 (sz : Nat) (sg : Bool) (a b : Int) (w : World) : Calls Try.prog 14 #[.string ⟨#[60, 61]⟩, tV sz sg, .int .i64 a, .int .i64 b] w (IntIs .i64 (bitI (cmpYes 4 (ordZ sg a b))) w) := by
  rw [show tV sz sg = .agg #[.int .i64 1, .int .i64 sz, .bool sg, .bool false, .pointer none, .int .i64 0, .int .i64 0, .slice none 0 0, .pointer none] from rfl]
  go_enter Try.func14, Try.ntmps14
  go_wp2_with (first | (go_at_call 25; refine (cmp_any sz sg _ _ _).mono ?_; rintro e w1 ⟨rfl, hb1⟩; obtain ⟨hc, hf⟩ := bcell hb1) | (go_at_call 16; refine (bool_any _ _).mono ?_; rintro e w2 ⟨rfl, rfl⟩))
  go_ret
  exact ⟨ret_int (by first | (simp [cmpYes]; done) | (simp [cmpYes, bitI]; done)), ((Below.refl _ _).alloc (Nat.le_refl _) _).trans (hb1.mono (by simp))⟩

set_option maxHeartbeats 2000000 in
theorem Cmp_5 (sz : Nat) (sg : Bool) (a b : Int) (w : World) : Calls Try.prog 14 #[.string ⟨#[62, 61]⟩, tV sz sg, .int .i64 a, .int .i64 b] w (IntIs .i64 (bitI (cmpYes 5 (ordZ sg a b))) w) := by
  rw [show tV sz sg = .agg #[.int .i64 1, .int .i64 sz, .bool sg, .bool false, .pointer none, .int .i64 0, .int .i64 0, .slice none 0 0, .pointer none] from rfl]
  go_enter Try.func14, Try.ntmps14
  go_wp2_with (first | (go_at_call 25; refine (cmp_any sz sg _ _ _).mono ?_; rintro e w1 ⟨rfl, hb1⟩; obtain ⟨hc, hf⟩ := bcell hb1) | (go_at_call 16; refine (bool_any _ _).mono ?_; rintro e w2 ⟨rfl, rfl⟩))
  go_ret
  exact ⟨ret_int (by first | (simp [cmpYes]; done) | (simp [cmpYes, bitI]; done)), ((Below.refl _ _).alloc (Nat.le_refl _) _).trans (hb1.mono (by simp))⟩

set_option maxHeartbeats 2000000 in
theorem Cmp_6 (sz : Nat) (sg : Bool) (a b : Int) (w : World) : Calls Try.prog 14 #[.string ⟨#[43]⟩, tV sz sg, .int .i64 a, .int .i64 b] w (IntIs .i64 (bitI (cmpYes 6 (ordZ sg a b))) w) := by
  rw [show tV sz sg = .agg #[.int .i64 1, .int .i64 sz, .bool sg, .bool false, .pointer none, .int .i64 0, .int .i64 0, .slice none 0 0, .pointer none] from rfl]
  go_enter Try.func14, Try.ntmps14
  go_wp2_with (first | (go_at_call 25; refine (cmp_any sz sg _ _ _).mono ?_; rintro e w1 ⟨rfl, hb1⟩; obtain ⟨hc, hf⟩ := bcell hb1) | (go_at_call 16; refine (bool_any _ _).mono ?_; rintro e w2 ⟨rfl, rfl⟩))
  go_ret
  exact ⟨ret_int (by first | (simp [cmpYes]; done) | (simp [cmpYes, bitI]; done)), ((Below.refl _ _).alloc (Nat.le_refl _) _).trans (hb1.mono (by simp))⟩

end Go.Proofs.Ytbflijjkdndefaa
