import Derived.Test.YtoajcggiccfaiaaDoorCtCD
import Derived.Deep.RegionLaw
namespace Go.Proofs.YtoajcggiccfaiaaDoor
open Go Go.RowKit
set_option linter.unusedVariables false
set_option linter.unusedSimpArgs false

/-- The greatest of the first i numbers, from 1 on. -/
def maxTo (B : Nat → Int) : Nat → Int
  | 0 => 1
  | i + 1 => max (maxTo B i) (B i)
theorem maxTo_range (B : Nat → Int) (n : Nat) (h : ∀ i, i < n → 1 ≤ B i ∧ B i ≤ 8) : 1 ≤ maxTo B n ∧ maxTo B n ≤ 8 := by
  induction n with
  | zero => exact ⟨by simp [maxTo], by simp [maxTo]⟩
  | succ n ih =>
    have h1 := ih fun i hi => h i (by omega)
    have h2 := h n (by omega)
    unfold maxTo; omega
theorem max_if2 (A L : Int) : max A L = if A < L then L else A := by split <;> omega
theorem i64_of (x : Int) (h0 : 0 ≤ x) (h1 : x ≤ 4611686018427387904) : IntKind.i64.wrap x = x := by rw [IntWalk.i64_left]; exact IntWalk.wrap64_in _ ⟨by omega, by omega⟩
theorem wrap_of (x : Int) (h0 : 0 ≤ x) (h1 : x ≤ 4611686018427387904) : wrap64 x = x := IntWalk.wrap64_in _ ⟨by omega, by omega⟩
theorem quo_is (sz : Int) (h : 0 < sz) : IntKind.i64.wrap (Int.tdiv 1099511627776 sz) = 1099511627776 / sz ∧ 0 ≤ 1099511627776 / sz := by
  have h1 : Int.tdiv 1099511627776 sz = 1099511627776 / sz := Int.tdiv_eq_ediv_of_nonneg (by omega)
  have h2 := Int.ediv_nonneg (show (0 : Int) ≤ 1099511627776 by omega) (show 0 ≤ sz by omega)
  have h3 := Int.ediv_le_self sz (show (0 : Int) ≤ 1099511627776 by omega)
  exact ⟨by rw [h1, i64_of _ h2 (by omega)], h2⟩
theorem timesM_turn (m s : Int) (hm : 0 ≤ m) (hs : 0 ≤ s) : timesM m s = if 0 < s ∧ 1099511627776 / s < m then 1099511627776 else m * s := by
  unfold timesM
  by_cases h1 : m = 0
  · subst h1
    rw [if_neg (by omega), if_neg]
    rintro ⟨h2, h3⟩
    have := Int.ediv_nonneg (show (0 : Int) ≤ 1099511627776 by omega) hs
    omega
  by_cases h2 : s = 0
  · subst h2
    rw [if_neg, if_neg (by omega)]
    rintro ⟨h2, h3⟩
    have := Int.ediv_nonneg (show (0 : Int) ≤ 1099511627776 by omega) hm
    omega
  have e1 := Int.ediv_lt_iff_lt_mul (a := 1099511627776) (b := s) (c := m) (by omega)
  have e2 := Int.ediv_lt_iff_lt_mul (a := 1099511627776) (b := m) (c := s) (by omega)
  rw [Int.mul_comm s m] at e1
  by_cases h3 : 1099511627776 < m * s
  · rw [if_pos ⟨by omega, e1.mpr h3⟩, if_pos ⟨by omega, e2.mpr h3⟩]
  · rw [if_neg (fun h => h3 (e1.mp h.2)), if_neg (fun h => h3 (e2.mp h.2))]

namespace Reg
theorem takeD {P : Program} {ops : Array Oper} {Q : Exit → Act → World → Prop} {md : Region.Mode} {S : World → Prop} {i d : Nat} {oi : Oper} {v : Value} {fuel : Nat} {listed : Array Bool} {a : Act} {w : World} (hi : ops[i]? = some oi) (hd : oi.dst = some d)
    (hs : Region.noSelect ops = true) (hf : Region.free md ops listed i = true) (hr : (Region.ready md ops listed).contains i = true)
    (hQ : ∀ c a w, Q (.panic c) (a.put oi.dst v) w → Q (.panic c) a w) (hy : YieldsIf P ops S oi v a) (hS : S w)
    (h : wpAnyH P md ops Q S fuel (listed.setIfInBounds i true) (a.put (some d) v) w) : wpAnyH P md ops Q S (fuel + 1) listed a w :=
  wpAnyH_take hi hs hf hr hQ hy hS (by rw [hd]; exact h)
end Reg
open Reg
section
variable (lb N lc : Nat) (la : Option Addr) (RN : Nat → ByteArray) (RV : Nat → Option Addr × Nat × Nat) (G CT CC : Nat → Nat) (TY : Nat → Nat → Ty) (EL : Nat → Nat → Option Addr)

set_option maxHeartbeats 4000000 in
theorem ralign_arr (t : Ty) (m : Int) (r : Int)
    (ih : ∀ (el : Option Addr) (w : World), RTab w lb N lc la RN RV G CT CC TY EL → ElAt w 0 w.heap.size t el → Calls Tryd.prog 11 #[.slice la N lc, tyV t el] w (IntRes r w))
    (el : Option Addr) (w : World) (h : RTab w lb N lc la RN RV G CT CC TY EL) (he : ElAt w 0 w.heap.size (.arr t m) el) :
    Calls Tryd.prog 11 #[.slice la N lc, tyV (.arr t m) el] w (IntRes r w) := by
  obtain ⟨b, e0, rfl, hb0, hb1, hc, he'⟩ := he
  obtain ⟨c0, c1, c2, c3, c4, c5, c6, c7, c8⟩ := hc
  simp only [Nat.zero_add] at c1 c2 c3 c4 c5 c6 c7 c8
  have hih := ih
  rw [tyV_arr]
  unfold tyV at hih
  have HI := Lib.hid hih
  have HT0 := Lib.hid h
  have HE0 := Lib.hid he'
  clear ih h hb0 he' hih
  go_enter Tryd.func11, Tryd.ntmps11
  go_wp2_with fail
  generalize hW : w.alloc (.cells #[.int .i64 3, .int .i64 0, .bool false, .bool false, .pointer (some ⟨b, 0, none⟩), .int .i64 m, .int .i64 0, .slice none 0 0, .pointer none] 34) = W
  have hbW : Below w.heap.size w W := by rw [← hW]; exact (Below.refl _ _).alloc (Nat.le_refl _) _
  have HBW := Lib.hid hbW
  clear hW
  (with_reducible refine (HI.out e0 _ (HT0.out.below hbW) ((HE0.out.below hbW (Nat.le_refl _)).mono (Nat.le_refl _) hbW.size)).mono ?_)
  rintro e w1 ⟨rfl, hb1⟩
  have HB1 := Lib.hid hb1
  clear hb1
  go_wp2_with fail
  go_ret
  exact ⟨rfl, HBW.out.trans (HB1.out.mono HBW.out.size)⟩

set_option maxHeartbeats 4000000 in
theorem rsize_arr (t : Ty) (m : Int) (hm0 : 0 ≤ m) (hm1 : m ≤ 1000000) (sz : Int) (hz0 : 0 ≤ sz) (hz1 : sz ≤ 1099511627776)
    (ih : ∀ (el : Option Addr) (w : World), RTab w lb N lc la RN RV G CT CC TY EL → ElAt w 0 w.heap.size t el → Calls Tryd.prog 9 #[.slice la N lc, tyV t el] w (IntRes sz w))
    (el : Option Addr) (w : World) (h : RTab w lb N lc la RN RV G CT CC TY EL) (he : ElAt w 0 w.heap.size (.arr t m) el) :
    Calls Tryd.prog 9 #[.slice la N lc, tyV (.arr t m) el] w (IntRes (timesM m sz) w) := by
  obtain ⟨t0, t1⟩ := timesM_range m sz hm0 hz0
  rw [timesM_turn m sz hm0 hz0] at t0 t1 ⊢
  obtain ⟨b, e0, rfl, hb0, hb1, hc, he'⟩ := he
  have hih := ih
  rw [tyV_arr]
  unfold tyV at hih
  have HI := Lib.hid hih
  have HT0 := Lib.hid h
  have HE0 := Lib.hid he'
  have HC0 := Lib.hid hc
  clear ih h hb0 he' hc hih
  rcases (show sz = 0 ∨ (0 < sz ∧ 1099511627776 / sz < m) ∨ (0 < sz ∧ ¬ 1099511627776 / sz < m) by omega) with hz | ⟨hz, hq⟩ | ⟨hz, hq⟩
  · subst hz
    rw [if_neg (by omega)] at t0 t1 ⊢
    obtain ⟨c0, c1, c2, c3, c4, c5, c6, c7, c8⟩ := HC0.out
    simp only [Nat.zero_add] at c1 c2 c3 c4 c5 c6 c7 c8
    go_enter Tryd.func9, Tryd.ntmps9
    go_wp2_with fail
    (with_reducible refine (HI.out e0 _ (HT0.out.below ((Below.refl _ _).alloc (Nat.le_refl _) _)) ((HE0.out.below ((Below.refl _ _).alloc (Nat.le_refl _) _) (Nat.le_refl _)).mono (Nat.le_refl _) (by simp))).mono ?_)
    rintro e w1 ⟨rfl, hb⟩
    have hz := hb.size
    simp at hz
    have p5 : w1.cell? ⟨w.heap.size, 5, none⟩ = some (.int .i64 m) := by rw [hb.cell (by simp)]; simp
    have HB := Lib.hid (((Below.refl w.heap.size w).alloc (Nat.le_refl _) (.cells #[.int .i64 3, .int .i64 0, .bool false, .bool false, .pointer (some ⟨b, 0, none⟩), .int .i64 m, .int .i64 0, .slice none 0 0, .pointer none] 34)).trans (hb.mono (by simp)))
    clear hb
    go_upto_region 8 with fail
    refine wp_region_held_drew (S := (fun w' => w'.cell? ⟨w.heap.size, 5, none⟩ = some (.int .i64 m))) (by kernel_rfl) (by go_keep) (fun hHeld => ?_)
    refine takeD (i := 0) (d := 23) (v := ?_) rfl rfl (by kernel_rfl) (by kernel_rfl) (by kernel_rfl) (fun _ _ _ h => h) (Or.inl ⟨by rfl, ?_⟩) (by assumption) ?_
    rotate_left
    · intro w hSw
      (try dsimp only at hSw)
      go_simp
      (try with_reducible rfl)
    (try simp only [Act.put, List.setIfInBounds_toArray, List.set_cons_zero, List.set_cons_succ])
    refine takeD (i := 1) (d := 24) (v := ?_) rfl rfl (by kernel_rfl) (by kernel_rfl) (by kernel_rfl) (fun _ _ _ h => h) (Or.inl ⟨by rfl, ?_⟩) (by assumption) ?_
    rotate_left
    · intro w hSw
      (try dsimp only at hSw)
      go_simp
      (try with_reducible rfl)
    (try simp only [Act.put, List.setIfInBounds_toArray, List.set_cons_zero, List.set_cons_succ])
    refine takeD (i := 2) (d := 25) (v := ?_) rfl rfl (by kernel_rfl) (by kernel_rfl) (by kernel_rfl) (fun _ _ _ h => h) (Or.inl ⟨by rfl, ?_⟩) (by assumption) ?_
    rotate_left
    · intro w hSw
      (try dsimp only at hSw)
      go_simp
      (try with_reducible rfl)
    (try simp only [Act.put, List.setIfInBounds_toArray, List.set_cons_zero, List.set_cons_succ])
    refine takeD (i := 3) (d := 26) (v := undef) rfl rfl (by kernel_rfl) (by kernel_rfl) (by kernel_rfl) (fun _ _ _ h => h) (Or.inr ⟨by rfl, rfl⟩) (by assumption) ?_
    (try simp only [Act.put, List.setIfInBounds_toArray, List.set_cons_zero, List.set_cons_succ])
    refine takeD (i := 4) (d := 27) (v := undef) rfl rfl (by kernel_rfl) (by kernel_rfl) (by kernel_rfl) (fun _ _ _ h => h) (Or.inr ⟨by rfl, rfl⟩) (by assumption) ?_
    (try simp only [Act.put, List.setIfInBounds_toArray, List.set_cons_zero, List.set_cons_succ])
    refine takeD (i := 5) (d := 28) (v := undef) rfl rfl (by kernel_rfl) (by kernel_rfl) (by kernel_rfl) (fun _ _ _ h => h) (Or.inr ⟨by rfl, rfl⟩) (by assumption) ?_
    (try simp only [Act.put, List.setIfInBounds_toArray, List.set_cons_zero, List.set_cons_succ])
    refine takeD (i := 6) (d := 29) (v := undef) rfl rfl (by kernel_rfl) (by kernel_rfl) (by kernel_rfl) (fun _ _ _ h => h) (Or.inr ⟨by rfl, rfl⟩) (by assumption) ?_
    (try simp only [Act.put, List.setIfInBounds_toArray, List.set_cons_zero, List.set_cons_succ])
    refine takeD (i := 7) (d := 30) (v := undef) rfl rfl (by kernel_rfl) (by kernel_rfl) (by kernel_rfl) (fun _ _ _ h => h) (Or.inr ⟨by rfl, rfl⟩) (by assumption) ?_
    (try simp only [Act.put, List.setIfInBounds_toArray, List.set_cons_zero, List.set_cons_succ])
    refine takeD (i := 8) (d := 31) (v := ?_) rfl rfl (by kernel_rfl) (by kernel_rfl) (by kernel_rfl) (fun _ _ _ h => h) (Or.inl ⟨by rfl, ?_⟩) (by assumption) ?_
    rotate_left
    · intro w hSw
      (try dsimp only at hSw)
      go_simp
      (try with_reducible rfl)
    (try simp only [Act.put, List.setIfInBounds_toArray, List.set_cons_zero, List.set_cons_succ])
    refine wpAnyH_done (by kernel_rfl) ?_ _
    clear hHeld
    go_wp2_with fail
    all_goals
      go_ret
      exact ⟨by simp [wrap_of], HB.out.drew⟩
  · rw [if_pos ⟨hz, hq⟩] at t0 t1 ⊢
    have hsz : ¬ sz = 0 := by omega
    have hqq := (quo_is sz hz).1
    have hdec : decide (IntKind.i64.wrap (Int.tdiv 1099511627776 sz) < m) = true := by rw [hqq]; simpa using hq
    clear hqq
    obtain ⟨c0, c1, c2, c3, c4, c5, c6, c7, c8⟩ := HC0.out
    simp only [Nat.zero_add] at c1 c2 c3 c4 c5 c6 c7 c8
    go_enter Tryd.func9, Tryd.ntmps9
    go_wp2_with fail
    (with_reducible refine (HI.out e0 _ (HT0.out.below ((Below.refl _ _).alloc (Nat.le_refl _) _)) ((HE0.out.below ((Below.refl _ _).alloc (Nat.le_refl _) _) (Nat.le_refl _)).mono (Nat.le_refl _) (by simp))).mono ?_)
    rintro e w1 ⟨rfl, hb⟩
    have hz := hb.size
    simp at hz
    have p5 : w1.cell? ⟨w.heap.size, 5, none⟩ = some (.int .i64 m) := by rw [hb.cell (by simp)]; simp
    have HB := Lib.hid (((Below.refl w.heap.size w).alloc (Nat.le_refl _) (.cells #[.int .i64 3, .int .i64 0, .bool false, .bool false, .pointer (some ⟨b, 0, none⟩), .int .i64 m, .int .i64 0, .slice none 0 0, .pointer none] 34)).trans (hb.mono (by simp)))
    clear hb
    go_upto_region 8 with fail
    go_region_held3 (fun w' => w'.cell? ⟨w.heap.size, 5, none⟩ = some (.int .i64 m)) (go_keep) (fail)
    go_wp2_with fail
    all_goals
      go_ret
      exact ⟨rfl, HB.out.drew⟩
  · rw [if_neg (by omega)] at t0 t1 ⊢
    have hsz : ¬ sz = 0 := by omega
    have hqq := (quo_is sz hz).1
    have hdec : decide (IntKind.i64.wrap (Int.tdiv 1099511627776 sz) < m) = false := by rw [hqq]; simpa using hq
    clear hqq
    obtain ⟨c0, c1, c2, c3, c4, c5, c6, c7, c8⟩ := HC0.out
    simp only [Nat.zero_add] at c1 c2 c3 c4 c5 c6 c7 c8
    go_enter Tryd.func9, Tryd.ntmps9
    go_wp2_with fail
    (with_reducible refine (HI.out e0 _ (HT0.out.below ((Below.refl _ _).alloc (Nat.le_refl _) _)) ((HE0.out.below ((Below.refl _ _).alloc (Nat.le_refl _) _) (Nat.le_refl _)).mono (Nat.le_refl _) (by simp))).mono ?_)
    rintro e w1 ⟨rfl, hb⟩
    have hz := hb.size
    simp at hz
    have p5 : w1.cell? ⟨w.heap.size, 5, none⟩ = some (.int .i64 m) := by rw [hb.cell (by simp)]; simp
    have HB := Lib.hid (((Below.refl w.heap.size w).alloc (Nat.le_refl _) (.cells #[.int .i64 3, .int .i64 0, .bool false, .bool false, .pointer (some ⟨b, 0, none⟩), .int .i64 m, .int .i64 0, .slice none 0 0, .pointer none] 34)).trans (hb.mono (by simp)))
    clear hb
    go_upto_region 8 with fail
    go_region_held3 (fun w' => w'.cell? ⟨w.heap.size, 5, none⟩ = some (.int .i64 m)) (go_keep) (fail)
    go_wp2_with fail
    all_goals
      go_ret
      exact ⟨rfl, HB.out.drew⟩

set_option maxHeartbeats 4000000 in
theorem ralign_st (hN : N ≤ 1000000) (k : Nat) (hk : k < N) (hck : CT k ≤ 1000) (B : Nat → Int) (hB : ∀ i, i < CT k → 1 ≤ B i ∧ B i ≤ 8)
    (ih : ∀ i, i < CT k → ∀ w : World, RTab w lb N lc la RN RV G CT CC TY EL → Calls Tryd.prog 11 #[.slice la N lc, tyV (TY k i) (EL k i)] w (IntRes (B i) w))
    (w : World) (h : RTab w lb N lc la RN RV G CT CC TY EL) :
    Calls Tryd.prog 11 #[.slice la N lc, tyV (.st k) none] w (IntRes (maxTo B (CT k)) w) := by
  have hla := h.a (by omega)
  have HI := Lib.hid ih
  have HT0 := Lib.hid h
  have HBR := Lib.hid hB
  have HM := Lib.hid (fun i (hi : i ≤ CT k) => maxTo_range B i fun j hj => hB j (by omega))
  subst hla
  clear ih h hB
  obtain ⟨C, hC⟩ : ∃ C, C = CT k := ⟨_, rfl⟩
  have HC := Lib.hid hC
  rw [← hC] at hck ⊢
  clear hC
  rw [show tyV (.st k) none = .agg #[.int .i64 4, .int .i64 0, .bool false, .bool false, .pointer none, .int .i64 0, .int .i64 k, .slice none 0 0, .pointer none] from rfl]
  go_enter Tryd.func11, Tryd.ntmps11
  go_wp2_with fail
  generalize hW : w.alloc (.cells #[.int .i64 4, .int .i64 0, .bool false, .bool false, .pointer none, .int .i64 0, .int .i64 k, .slice none 0 0, .pointer none] 34) = W
  have hbW : Below w.heap.size w W := by rw [← hW]; exact (Below.refl _ _).alloc (Nat.le_refl _) _
  have hsW : W.heap.size = w.heap.size + 1 := by rw [← hW]; simp
  have p6 : W.cell? ⟨w.heap.size, 6, none⟩ = some (.int .i64 k) := by rw [← hW]; simp
  have HBW := Lib.hid hbW
  have HP6 := Lib.hid p6
  have HSW := Lib.hid hsW
  clear hW hbW hsW p6
  go_loopw [5, 6] (fun va vi wr => ∃ i : Nat, vi = .int .i64 i ∧ va = .int .i64 (maxTo B i) ∧ i ≤ C ∧ Below W.heap.size W wr) (fun va vi _ => C - (intOf vi).toNat)
  case atStart => exact ⟨0, rfl, rfl, by omega, Below.refl _ _⟩
  case round =>
    obtain ⟨i, rfl, rfl, hi, hb⟩ := hrel
    have p6 : wr.cell? ⟨w.heap.size, 6, none⟩ = some (.int .i64 k) := by rw [hb.cell (by simp; have := HSW.out; omega)]; exact HP6.out
    have HB := Lib.hid hb
    have hbw : Below w.heap.size w wr := HBW.out.trans (hb.mono HBW.out.size)
    have HBw := Lib.hid hbw
    have HT := Lib.hid (HT0.out.below hbw)
    obtain ⟨q0, q1, q2⟩ := HT.out.r k hk
    rw [← HC.out] at q2
    clear hb hbw
    by_cases hlt : i < C
    · have hiC : i < CT k := by rw [← HC.out]; exact hlt
      obtain ⟨⟨c0, c1, c2, c3, c4, c5, c6, c7, c8⟩, _⟩ := HT.out.t k hk i hiC
      have hIi := HI.out i hiC
      unfold tyV at hIi
      have HIi := Lib.hid hIi
      have hb1 := (HBR.out i hiC).1
      have hb2 := (HBR.out i hiC).2
      have hm1 := (HM.out i (by omega)).1
      have hm2 := (HM.out i (by omega)).2
      have HMS := Lib.hid (show maxTo B (i + 1) = max (maxTo B i) (B i) from rfl)
      clear hIi
      generalize B i = bi at hb1 hb2 HIi HMS
      generalize maxTo B i = ai at hm1 hm2 HMS
      by_cases hgt : ai < bi
      all_goals
        go_wp2_with (go_at_call 11
                     (with_reducible refine (HIi.out _ HT.out).mono ?_)
                     rintro e w1 ⟨rfl, hbb⟩
                     have HB1 : Hid (Below wr.heap.size wr w1) := Lib.hid hbb
                     clear hbb)
        all_goals
          go_roundw
          case rel => exact ⟨i + 1, by go_num, by rw [HMS.out, max_if2]; first | rw [if_pos hgt] | rw [if_neg (by omega)], by omega, HB.out.trans (HB1.out.mono HB.out.size)⟩
          case measure => simp [intOf]; omega
    · obtain rfl : i = C := by omega
      clear hlt
      go_wp2_with fail
      go_ret
      exact ⟨rfl, HBw.out⟩
end
end Go.Proofs.YtoajcggiccfaiaaDoor
