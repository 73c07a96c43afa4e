import Derived.Test.YtoajcggiccfaiaaDoorDsD
namespace Go.Proofs.YtoajcggiccfaiaaDoor
open Go Go.RowKit
set_option linter.unusedVariables false
set_option linter.unusedSimpArgs false

section
variable (lb N lc : Nat) (hN : N ≤ 1000000) (la : Option Addr) (RN : Nat → ByteArray) (RV : Nat → Option Addr × Nat × Nat) (G CT CC : Nat → Nat) (TY : Nat → Nat → Ty) (EL : Nat → Nat → Option Addr)

set_option maxRecDepth 100000 in
set_option maxHeartbeats 4000000 in
theorem rshow_void (l : Value) (w : World) : Calls Tryd.prog 13 #[l, tyV .void none] w (StrRes [118, 111, 105, 100] w) := by
  rw [show tyV .void none = .agg #[.int .i64 0, .int .i64 0, .bool false, .bool false, .pointer none, .int .i64 0, .int .i64 0, .slice none 0 0, .pointer none] from rfl]
  go_enter Tryd.func13, Tryd.ntmps13
  go_wp2_with fail
  go_ret
  exact ⟨rfl, (Below.refl _ _).alloc (Nat.le_refl _) _⟩

set_option maxRecDepth 100000 in
set_option maxHeartbeats 8000000 in
theorem rshow_int (l : Value) (k : Int) (sg sc : Bool) (w : World) : Calls Tryd.prog 13 #[l, tyV (.int k sg sc) none] w (StrRes (intL k sg sc) w) := by
  rw [show tyV (.int k sg sc) none = .agg #[.int .i64 1, .int .i64 k, .bool sg, .bool sc, .pointer none, .int .i64 0, .int .i64 0, .slice none 0 0, .pointer none] from rfl]
  by_cases h1 : k = 1
  · subst h1
    cases sg <;> cases sc
    all_goals
      go_enter Tryd.func13, Tryd.ntmps13
      go_wp2_with fail
      go_ret
      exact ⟨by rfl, (Below.refl _ _).alloc (Nat.le_refl _) _⟩
  by_cases h2 : k = 2
  · subst h2
    cases sg <;> cases sc
    all_goals
      go_enter Tryd.func13, Tryd.ntmps13
      go_wp2_with fail
      go_ret
      exact ⟨by rfl, (Below.refl _ _).alloc (Nat.le_refl _) _⟩
  by_cases h4 : k = 4
  · subst h4
    cases sg <;> cases sc
    all_goals
      go_enter Tryd.func13, Tryd.ntmps13
      go_wp2_with fail
      go_ret
      exact ⟨by rfl, (Below.refl _ _).alloc (Nat.le_refl _) _⟩
  have HI : Hid (∀ sg sc, intL k sg sc = intL 8 sg sc) := Lib.hid (fun sg sc => by unfold intL; rw [if_neg h1, if_neg h2, if_neg h4]; rfl)
  cases sg <;> cases sc
  all_goals
    go_enter Tryd.func13, Tryd.ntmps13
    go_wp2_with fail
    go_ret
    exact ⟨by rw [HI.out]; rfl, (Below.refl _ _).alloc (Nat.le_refl _) _⟩

set_option maxRecDepth 100000 in
set_option maxHeartbeats 4000000 in
theorem rshow_ptr (t : Ty) (sl : List UInt8) (hl : sl.length ≤ 1000000000)
    (ih : ∀ (el : Option Addr) (w : World), RTab w lb N lc la RN RV G CT CC TY EL → ElAt w 0 w.heap.size t el → Calls Tryd.prog 13 #[.slice la N lc, tyV t el] w (StrRes sl w))
    (el : Option Addr) (w : World) (h : RTab w lb N lc la RN RV G CT CC TY EL) (he : ElAt w 0 w.heap.size (.ptr t) el) :
    Calls Tryd.prog 13 #[.slice la N lc, tyV (.ptr t) el] w (StrRes (sl ++ [42]) w) := by
  obtain ⟨b, e0, rfl, hb0, hb1, hc, he'⟩ := he
  have hih := ih
  rw [tyV_ptr]
  unfold tyV at hih
  have HI := Lib.hid hih
  have HT0 := Lib.hid h
  have HE0 := Lib.hid he'
  have HC0 := Lib.hid hc
  clear ih h hb0 he' hc hih
  obtain ⟨c0, c1, c2, c3, c4, c5, c6, c7, c8⟩ := HC0.out
  simp only [Nat.zero_add] at c1 c2 c3 c4 c5 c6 c7 c8
  go_enter Tryd.func13, Tryd.ntmps13
  go_wp2_with fail
  (with_reducible refine (HI.out e0 _ (HT0.out.below ((Below.refl _ _).alloc (Nat.le_refl _) _)) ((HE0.out.below ((Below.refl _ _).alloc (Nat.le_refl _) _) (Nat.le_refl _)).mono (Nat.le_refl _) (by simp))).mono ?_)
  rintro e w1 ⟨rfl, hb⟩
  have HB := Lib.hid (((Below.refl w.heap.size w).alloc (Nat.le_refl _) (.cells #[.int .i64 2, .int .i64 8, .bool false, .bool false, .pointer (some ⟨b, 0, none⟩), .int .i64 0, .int .i64 0, .slice none 0 0, .pointer none] 34)).trans (hb.mono (by simp)))
  clear hb c0 c1 c2 c3 c4 c5 c6 c7 c8
  go_wp2_with fail
  go_ret
  exact ⟨by rw [show (⟨#[42]⟩ : ByteArray) = ⟨[42].toArray⟩ from rfl, ba_mk]; rfl, HB.out⟩

set_option maxRecDepth 100000 in
set_option maxHeartbeats 4000000 in
theorem rshow_arr (t : Ty) (m : Nat) (hm : m < 100) (sl : List UInt8) (hl : sl.length ≤ 1000000000)
    (ih : ∀ (el : Option Addr) (w : World), RTab w lb N lc la RN RV G CT CC TY EL → ElAt w 0 w.heap.size t el → Calls Tryd.prog 13 #[.slice la N lc, tyV t el] w (StrRes sl w))
    (el : Option Addr) (w : World) (h : RTab w lb N lc la RN RV G CT CC TY EL) (he : ElAt w 0 w.heap.size (.arr t m) el) :
    Calls Tryd.prog 13 #[.slice la N lc, tyV (.arr t m) el] w (StrRes (sl ++ ([91] ++ (Lib.decDigits m ++ [93]))) w) := by
  obtain ⟨b, e0, rfl, hb0, hb1, hc, he'⟩ := he
  have hih := ih
  rw [tyV_arr]
  unfold tyV at hih
  have HI := Lib.hid hih
  have HT0 := Lib.hid h
  have HE0 := Lib.hid he'
  have HC0 := Lib.hid hc
  have HDL : (Lib.decDigits m).length ≤ 20 := by
    by_cases h : m < 10
    · rw [dec1 m h]; simp
    · rw [dec2 m h, dec1 _ (show m / 10 < 10 by omega), dec1 _ (show m % 10 < 10 by omega)]; simp
  clear ih h hb0 he' hc hih
  generalize hD : Lib.decDigits m = dl at HDL
  have HD := Lib.hid hD
  have f1 : sl.length ≤ 9223372036854775806 := by omega
  have f2 : sl.length + 1 + dl.length ≤ 9223372036854775807 := by omega
  have f3 : sl.length + 1 + dl.length ≤ 9223372036854775806 := by omega
  have g1 : ¬ 9223372036854775807 < sl.length + 1 := by omega
  have g2 : ¬ 9223372036854775807 < sl.length + 1 + dl.length := by omega
  have g3 : ¬ 9223372036854775807 < sl.length + 1 + dl.length + 1 := by omega
  clear hD
  go_enter Tryd.func13, Tryd.ntmps13
  go_upto_region 19 with fail
  generalize hW : w.alloc (.cells #[.int .i64 3, .int .i64 0, .bool false, .bool false, .pointer (some ⟨b, 0, none⟩), .int .i64 m, .int .i64 0, .slice none 0 0, .pointer none] 34) = W
  have hbW : Below w.heap.size w W := by rw [← hW]; exact (Below.refl _ _).alloc (Nat.le_refl _) _
  have hsW : W.heap.size = w.heap.size + 1 := by rw [← hW]; simp
  have p4 : W.cell? ⟨w.heap.size, 4, none⟩ = some (.pointer (some ⟨b, 0, none⟩)) := by rw [← hW]; simp
  have p5 : W.cell? ⟨w.heap.size, 5, none⟩ = some (.int .i64 m) := by rw [← hW]; simp
  have HBW := Lib.hid hbW
  have HSW := Lib.hid hsW
  have HT := Lib.hid (HT0.out.below hbW)
  have HE := Lib.hid ((HE0.out.below hbW (Nat.le_refl _)).mono (Nat.le_refl _) hbW.size)
  have HC := Lib.hid (HC0.out.below hbW hb1)
  obtain ⟨c0, c1, c2, c3, c4, c5, c6, c7, c8⟩ := HC.out
  simp only [Nat.zero_add] at c1 c2 c3 c4 c5 c6 c7 c8
  clear hW hbW hsW
  go_region_held3 (fun w' => w'.cell? ⟨w.heap.size, 4, none⟩ = some (.pointer (some ⟨b, 0, none⟩)) ∧ w'.cell? ⟨w.heap.size, 5, none⟩ = some (.int .i64 m) ∧ w'.cell? ⟨b, 0, none⟩ = some (.int .i64 t.kind) ∧ w'.cell? ⟨b, 1, none⟩ = some (.int .i64 t.size) ∧ w'.cell? ⟨b, 2, none⟩ = some (.bool t.sg) ∧ w'.cell? ⟨b, 3, none⟩ = some (.bool t.sc) ∧ w'.cell? ⟨b, 4, none⟩ = some (.pointer e0) ∧ w'.cell? ⟨b, 5, none⟩ = some (.int .i64 t.len) ∧ w'.cell? ⟨b, 6, none⟩ = some (.int .i64 t.num) ∧ w'.cell? ⟨b, 7, none⟩ = some (.slice none 0 0) ∧ w'.cell? ⟨b, 8, none⟩ = some (.pointer none)) (go_keep)
    (first
      | (go_at_call 32
         (with_reducible refine (digits2 m hm _).mono ?_)
         rintro e w2 ⟨rfl, hb2⟩
         have HB2 : Hid (Below W.heap.size W w2) := Lib.hid (HB1.out.trans (hb2.mono HB1.out.size))
         rw [HD.out]
         have p42 : w2.cell? ⟨w.heap.size, 4, none⟩ = some (.pointer (some ⟨b, 0, none⟩)) := by rw [HB2.out.cell (by simp [HSW.out])]; exact p4
         have p52 : w2.cell? ⟨w.heap.size, 5, none⟩ = some (.int .i64 m) := by rw [HB2.out.cell (by simp [HSW.out])]; exact p5
         obtain ⟨k0, k1, k2, k3, k4, k5, k6, k7, k8⟩ := HC.out.below HB2.out (by have := HSW.out; omega)
         simp only [Nat.zero_add] at k1 k2 k3 k4 k5 k6 k7 k8
         clear hb2)
      | (go_at_call 13
         (with_reducible refine (HI.out e0 _ (HT.out.below ((Below.refl W.heap.size W).drew)) ((HE.out.below ((Below.refl W.heap.size W).drew) (Nat.le_refl _)).mono (Nat.le_refl _) (by simp))).mono ?_)
         rintro e w1 ⟨rfl, hb1'⟩
         have HB1 : Hid (Below W.heap.size W w1) := Lib.hid ((Below.refl _ _).drew.trans hb1')
         have p41 : w1.cell? ⟨w.heap.size, 4, none⟩ = some (.pointer (some ⟨b, 0, none⟩)) := by rw [HB1.out.cell (by simp [HSW.out])]; exact p4
         have p51 : w1.cell? ⟨w.heap.size, 5, none⟩ = some (.int .i64 m) := by rw [HB1.out.cell (by simp [HSW.out])]; exact p5
         obtain ⟨j0, j1, j2, j3, j4, j5, j6, j7, j8⟩ := HC.out.below HB1.out (by have := HSW.out; omega)
         simp only [Nat.zero_add] at j1 j2 j3 j4 j5 j6 j7 j8
         clear hb1'))
  go_wp2_with fail
  go_ret
  exact ⟨by rw [show (⟨#[91]⟩ : ByteArray) = ⟨[91].toArray⟩ from rfl, show (⟨#[93]⟩ : ByteArray) = ⟨[93].toArray⟩ from rfl, ba_mk, ba_mk, ba_mk, List.append_assoc, List.append_assoc]; rfl, HBW.out.trans (HB2.out.mono (by have := HSW.out; omega))⟩

set_option maxRecDepth 100000 in
set_option maxHeartbeats 4000000 in
include hN in
theorem rshow_st (k : Int) (hl : (showL N RN (.st k)).length ≤ 1000000000) (w : World) (h : RTab w lb N lc la RN RV G CT CC TY EL) :
    Calls Tryd.prog 13 #[.slice la N lc, tyV (.st k) none] w (StrRes (showL N RN (.st k)) w) := by
  have HT0 := Lib.hid h
  rw [show tyV (.st k) none = .agg #[.int .i64 4, .int .i64 0, .bool false, .bool false, .pointer none, .int .i64 0, .int .i64 k, .slice none 0 0, .pointer none] from rfl]
  rcases (show k < 0 ∨ (0 ≤ k ∧ (N : Int) ≤ k) ∨ (0 ≤ k ∧ k < N) by omega) with hk | ⟨hk0, hk⟩ | ⟨hk0, hk⟩
  · have HS := Lib.hid (show showL N RN (.st k) = [115, 116, 114, 117, 99, 116, 32] by unfold showL; rw [if_neg (by omega)]; rfl)
    clear h
    go_enter Tryd.func13, Tryd.ntmps13
    go_wp2_with fail
    go_ret
    exact ⟨by rw [HS.out]; rfl, (Below.refl _ _).alloc (Nat.le_refl _) _⟩
  · have HS := Lib.hid (show showL N RN (.st k) = [115, 116, 114, 117, 99, 116, 32] by unfold showL; rw [if_neg (by omega)]; rfl)
    clear h
    go_enter Tryd.func13, Tryd.ntmps13
    go_wp2_with fail
    go_ret
    exact ⟨by rw [HS.out]; rfl, (Below.refl _ _).alloc (Nat.le_refl _) _⟩
  · obtain ⟨j, rfl⟩ : ∃ j : Nat, k = j := ⟨k.toNat, by omega⟩
    have hS : showL N RN (.st (j : Int)) = [115, 116, 114, 117, 99, 116, 32] ++ (RN j).data.toList := by unfold showL; rw [if_pos ⟨hk0, hk⟩, Int.toNat_natCast]
    have hnm : (RN j).size ≤ 1000000000 := by
      have h1 : (RN j).data.toList.length = (RN j).size := by simp
      rw [hS, List.length_append] at hl; omega
    have HS := Lib.hid hS
    have hr := (h.r j (by omega)).c0
    have ha := h.a (by omega)
    have hb := World.block_lt_of_cell? w _ hr
    simp at hb
    subst ha
    clear h hS hl
    go_enter Tryd.func13, Tryd.ntmps13
    go_wp2_with fail
    go_ret
    exact ⟨by (rw [HS.out]; congr 2), (Below.refl _ _).alloc (Nat.le_refl _) _⟩

include hN in
/-- The reference's text of any type. -/
theorem rshow_any (t : Ty) : Ok99 t → (showL N RN t).length ≤ 1000000000 → ∀ (el : Option Addr) (w : World), RTab w lb N lc la RN RV G CT CC TY EL → ElAt w 0 w.heap.size t el →
    Calls Tryd.prog 13 #[.slice la N lc, tyV t el] w (StrRes (showL N RN t) w) := by
  induction t with
  | void => intro _ _ el w h he; obtain rfl : el = none := he; exact rshow_void _ w
  | int k b c => intro _ _ el w h he; obtain rfl : el = none := he; exact rshow_int _ k b c w
  | ptr t ih =>
    intro ok hl el w h he
    have h1 : (showL N RN t).length ≤ 1000000000 := by simp [showL] at hl; omega
    exact rshow_ptr lb N lc la RN RV G CT CC TY EL t _ h1 (ih ok h1) el w h he
  | arr t m ih =>
    intro ok hl el w h he
    obtain ⟨⟨m0, m1⟩, ok⟩ := ok
    obtain ⟨j, rfl⟩ : ∃ j : Nat, m = j := ⟨m.toNat, by omega⟩
    have h1 : (showL N RN t).length ≤ 1000000000 := by simp [showL] at hl; omega
    exact rshow_arr lb N lc la RN RV G CT CC TY EL t j (by omega) _ h1 (ih ok h1) el w h he
  | st k => intro _ hl el w h he; obtain rfl : el = none := he; exact rshow_st lb N lc hN la RN RV G CT CC TY EL k hl w h
end
end Go.Proofs.YtoajcggiccfaiaaDoor
