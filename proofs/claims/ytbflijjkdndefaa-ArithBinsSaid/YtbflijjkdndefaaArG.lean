import Derived.Test.YtbflijjkdndefaaArF
namespace Go.Proofs.Ytbflijjkdndefaa
open Go Go.RowKit
set_option linter.unusedVariables false
set_option linter.unusedSimpArgs false

set_option maxHeartbeats 8000000 in
theorem parts_a (sz : Nat) (sg : Bool) (how a b x y q r p u : Int) (f0 : ((sz : Int) == 8) = false) (f1 : (y == 0) = false)
    (CT : ∀ w, Calls Try.prog 8 #[.int .i64 how] w (TypeIs sz sg w))
    (CX : ∀ w, Calls Try.prog 13 #[.agg #[.int .i64 1, .int .i64 sz, .bool sg, .bool false, .pointer none, .int .i64 0, .int .i64 0, .slice none 0 0, .pointer none], .int .i64 a] w (IntIs .i64 x w))
    (CY : ∀ w, Calls Try.prog 13 #[.agg #[.int .i64 1, .int .i64 sz, .bool sg, .bool false, .pointer none, .int .i64 0, .int .i64 0, .slice none 0 0, .pointer none], .int .i64 b] w (IntIs .i64 y w))
    (CQ : ∀ w, Calls Try.prog 11 #[.string ⟨#[47]⟩, .agg #[.int .i64 1, .int .i64 sz, .bool sg, .bool false, .pointer none, .int .i64 0, .int .i64 0, .slice none 0 0, .pointer none], .int .i64 x, .int .i64 y] w  (PairIs q true w))
    (CR : ∀ w, Calls Try.prog 11 #[.string ⟨#[37]⟩, .agg #[.int .i64 1, .int .i64 sz, .bool sg, .bool false, .pointer none, .int .i64 0, .int .i64 0, .slice none 0 0, .pointer none], .int .i64 x, .int .i64 y] w  (PairIs r true w))
    (CP : ∀ w, Calls Try.prog 11 #[.string ⟨#[42]⟩, .agg #[.int .i64 1, .int .i64 sz, .bool sg, .bool false, .pointer none, .int .i64 0, .int .i64 0, .slice none 0 0, .pointer none], .int .i64 q, .int .i64 y] w  (PairIs p true w))
    (CS : ∀ w, Calls Try.prog 11 #[.string ⟨#[43]⟩, .agg #[.int .i64 1, .int .i64 sz, .bool sg, .bool false, .pointer none, .int .i64 0, .int .i64 0, .slice none 0 0, .pointer none], .int .i64 p, .int .i64 r] w  (PairIs x true w))
    (CU : ∀ w, Calls Try.prog 11 #[.string ⟨#[43]⟩, .agg #[.int .i64 1, .int .i64 sz, .bool sg, .bool false, .pointer none, .int .i64 0, .int .i64 0, .slice none 0 0, .pointer none], .int .i64 x, .int .i64 y] w  (PairIs u true w))
    (CV : ∀ w, Calls Try.prog 11 #[.string ⟨#[43]⟩, .agg #[.int .i64 1, .int .i64 sz, .bool sg, .bool false, .pointer none, .int .i64 0, .int .i64 0, .slice none 0 0, .pointer none], .int .i64 y, .int .i64 x] w  (PairIs u true w))
    (CW : ∀ w, Calls Try.prog 11 #[.string ⟨#[45]⟩, .agg #[.int .i64 1, .int .i64 sz, .bool sg, .bool false, .pointer none, .int .i64 0, .int .i64 0, .slice none 0 0, .pointer none], .int .i64 u, .int .i64 y] w  (PairIs x true w))
    (w : World) : Calls Try.prog 5 #[.int .i64 how, .int .i64 a, .int .i64 b] w (BoolIs true w) := by
  have HT := Lib.hid CT
  have HX := Lib.hid CX
  have HY := Lib.hid CY
  have HQ := Lib.hid CQ
  have HR := Lib.hid CR
  have HP := Lib.hid CP
  have HS := Lib.hid CS
  have HU := Lib.hid CU
  have HV := Lib.hid CV
  have HW := Lib.hid CW
  clear CT CX CY CQ CR CP CS CU CV CW
  go_enter Try.func5, Try.ntmps5
  go_wp2_with fail
  refine (fit_law _).mono ?_
  rintro e w1 ⟨rfl, hb1⟩
  go_wp2_with fail
  refine (HT.out _).mono ?_
  rintro e w2 ⟨rfl, hb2⟩
  rw [show tV sz sg = .agg #[.int .i64 1, .int .i64 sz, .bool sg, .bool false, .pointer none, .int .i64 0, .int .i64 0, .slice none 0 0, .pointer none] from rfl]
  have HBA := Lib.hid (hb1.trans (hb2.mono hb1.size))
  clear hb1 hb2
  go_wp2_with fail
  generalize hW : w2.alloc _ = W
  have hbW : Below w.heap.size w W := by rw [← hW]; exact HBA.out.alloc HBA.out.size _
  have hsW : W.heap.size = w2.heap.size + 1 := by rw [← hW]; simp
  have HK : Hid (T9 W w2.heap.size sz sg) := Lib.hid (by rw [← hW]; exact t9_alloc w2 sz sg _)
  have HBW := Lib.hid hbW
  have HSW := Lib.hid hsW
  have HSZ := Lib.hid (HBA.out.size)
  obtain ⟨k0_0, k0_1, k0_2, k0_3, k0_4, k0_5, k0_6, k0_7, k0_8⟩ := HK.out
  skip
  clear hW hbW hsW HBA
  go_region_held3 (fun w' => w'.cell? ⟨w2.heap.size, 0, none⟩ = some (.int .i64 1) ∧ w'.cell? ⟨w2.heap.size, 1, none⟩ = some (.int .i64 sz) ∧ w'.cell? ⟨w2.heap.size, 2, none⟩ = some (.bool sg) ∧ w'.cell? ⟨w2.heap.size, 3, none⟩ = some (.bool false) ∧ w'.cell? ⟨w2.heap.size, 4, none⟩ = some (.pointer none) ∧ w'.cell? ⟨w2.heap.size, 5, none⟩ = some (.int .i64 0) ∧ w'.cell? ⟨w2.heap.size, 6, none⟩ = some (.int .i64 0) ∧ w'.cell? ⟨w2.heap.size, 7, none⟩ = some (.slice none 0 0) ∧ w'.cell? ⟨w2.heap.size, 8, none⟩ = some (.pointer none)) (go_keep)
    (first
      | (go_at_call 13
         (with_reducible refine (HY.out _).mono ?_)
         rintro e w_2 ⟨rfl, hb2⟩
         have HB2 : Hid (Below W.heap.size W w_2) := Lib.hid (HB1.out.trans (hb2.mono HB1.out.size))
         obtain ⟨k2_0, k2_1, k2_2, k2_3, k2_4, k2_5, k2_6, k2_7, k2_8⟩ := HK.out.below HB2.out (by have := HSW.out; omega)
         clear hb2 k1_0 k1_1 k1_2 k1_3 k1_4 k1_5 k1_6 k1_7 k1_8)
      | (go_at_call 13
         (with_reducible refine (HX.out _).mono ?_)
         rintro e w_1 ⟨rfl, hb1⟩
         have HB1 : Hid (Below W.heap.size W w_1) := Lib.hid ((Below.refl W.heap.size W).drew.trans hb1)
         obtain ⟨k1_0, k1_1, k1_2, k1_3, k1_4, k1_5, k1_6, k1_7, k1_8⟩ := HK.out.below HB1.out (by have := HSW.out; omega)
         clear hb1 k0_0 k0_1 k0_2 k0_3 k0_4 k0_5 k0_6 k0_7 k0_8))
  go_wp2_with fail
  (with_reducible refine (HQ.out _).mono ?_)
  rintro e w_3 ⟨rfl, hb3⟩
  have HB3 : Hid (Below W.heap.size W w_3) := Lib.hid (HB2.out.trans (hb3.mono HB2.out.size))
  obtain ⟨k3_0, k3_1, k3_2, k3_3, k3_4, k3_5, k3_6, k3_7, k3_8⟩ := HK.out.below HB3.out (by have := HSW.out; omega)
  clear hb3 k2_0 k2_1 k2_2 k2_3 k2_4 k2_5 k2_6 k2_7 k2_8
  go_wp2_with fail
  (with_reducible refine (HR.out _).mono ?_)
  rintro e w_4 ⟨rfl, hb4⟩
  have HB4 : Hid (Below W.heap.size W w_4) := Lib.hid (HB3.out.trans (hb4.mono HB3.out.size))
  obtain ⟨k4_0, k4_1, k4_2, k4_3, k4_4, k4_5, k4_6, k4_7, k4_8⟩ := HK.out.below HB4.out (by have := HSW.out; omega)
  clear hb4 k3_0 k3_1 k3_2 k3_3 k3_4 k3_5 k3_6 k3_7 k3_8
  go_wp2_with fail
  (with_reducible refine (HP.out _).mono ?_)
  rintro e w_5 ⟨rfl, hb5⟩
  have HB5 : Hid (Below W.heap.size W w_5) := Lib.hid (HB4.out.trans (hb5.mono HB4.out.size))
  obtain ⟨k5_0, k5_1, k5_2, k5_3, k5_4, k5_5, k5_6, k5_7, k5_8⟩ := HK.out.below HB5.out (by have := HSW.out; omega)
  clear hb5 k4_0 k4_1 k4_2 k4_3 k4_4 k4_5 k4_6 k4_7 k4_8
  go_wp2_with fail
  (with_reducible refine (HS.out _).mono ?_)
  rintro e w_6 ⟨rfl, hb6⟩
  have HB6 : Hid (Below W.heap.size W w_6) := Lib.hid (HB5.out.trans (hb6.mono HB5.out.size))
  obtain ⟨k6_0, k6_1, k6_2, k6_3, k6_4, k6_5, k6_6, k6_7, k6_8⟩ := HK.out.below HB6.out (by have := HSW.out; omega)
  clear hb6 k5_0 k5_1 k5_2 k5_3 k5_4 k5_5 k5_6 k5_7 k5_8
  go_wp2_with fail
  (with_reducible refine (HU.out _).mono ?_)
  rintro e w_7 ⟨rfl, hb7⟩
  have HB7 : Hid (Below W.heap.size W w_7) := Lib.hid (HB6.out.trans (hb7.mono HB6.out.size))
  obtain ⟨k7_0, k7_1, k7_2, k7_3, k7_4, k7_5, k7_6, k7_7, k7_8⟩ := HK.out.below HB7.out (by have := HSW.out; omega)
  clear hb7 k6_0 k6_1 k6_2 k6_3 k6_4 k6_5 k6_6 k6_7 k6_8
  go_wp2_with fail
  (with_reducible refine (HV.out _).mono ?_)
  rintro e w_8 ⟨rfl, hb8⟩
  have HB8 : Hid (Below W.heap.size W w_8) := Lib.hid (HB7.out.trans (hb8.mono HB7.out.size))
  obtain ⟨k8_0, k8_1, k8_2, k8_3, k8_4, k8_5, k8_6, k8_7, k8_8⟩ := HK.out.below HB8.out (by have := HSW.out; omega)
  clear hb8 k7_0 k7_1 k7_2 k7_3 k7_4 k7_5 k7_6 k7_7 k7_8
  go_wp2_with fail
  (with_reducible refine (HW.out _).mono ?_)
  rintro e w_9 ⟨rfl, hb9⟩
  have HB9 : Hid (Below W.heap.size W w_9) := Lib.hid (HB8.out.trans (hb9.mono HB8.out.size))
  obtain ⟨k9_0, k9_1, k9_2, k9_3, k9_4, k9_5, k9_6, k9_7, k9_8⟩ := HK.out.below HB9.out (by have := HSW.out; omega)
  clear hb9 k8_0 k8_1 k8_2 k8_3 k8_4 k8_5 k8_6 k8_7 k8_8
  go_wp2_with fail
  go_ret
  exact ⟨rfl, HBW.out.trans (HB9.out.mono (by have := HSW.out; have := HSZ.out; omega))⟩

set_option maxHeartbeats 8000000 in
theorem parts_b (how a b x y q r p u : Int) (f0 : (y == 0) = false)
    (CT : ∀ w, Calls Try.prog 8 #[.int .i64 how] w (TypeIs 8 false w))
    (CX : ∀ w, Calls Try.prog 13 #[.agg #[.int .i64 1, .int .i64 8, .bool false, .bool false, .pointer none, .int .i64 0, .int .i64 0, .slice none 0 0, .pointer none], .int .i64 a] w (IntIs .i64 x w))
    (CY : ∀ w, Calls Try.prog 13 #[.agg #[.int .i64 1, .int .i64 8, .bool false, .bool false, .pointer none, .int .i64 0, .int .i64 0, .slice none 0 0, .pointer none], .int .i64 b] w (IntIs .i64 y w))
    (CQ : ∀ w, Calls Try.prog 11 #[.string ⟨#[47]⟩, .agg #[.int .i64 1, .int .i64 8, .bool false, .bool false, .pointer none, .int .i64 0, .int .i64 0, .slice none 0 0, .pointer none], .int .i64 x, .int .i64 y] w  (PairIs q true w))
    (CR : ∀ w, Calls Try.prog 11 #[.string ⟨#[37]⟩, .agg #[.int .i64 1, .int .i64 8, .bool false, .bool false, .pointer none, .int .i64 0, .int .i64 0, .slice none 0 0, .pointer none], .int .i64 x, .int .i64 y] w  (PairIs r true w))
    (CP : ∀ w, Calls Try.prog 11 #[.string ⟨#[42]⟩, .agg #[.int .i64 1, .int .i64 8, .bool false, .bool false, .pointer none, .int .i64 0, .int .i64 0, .slice none 0 0, .pointer none], .int .i64 q, .int .i64 y] w  (PairIs p true w))
    (CS : ∀ w, Calls Try.prog 11 #[.string ⟨#[43]⟩, .agg #[.int .i64 1, .int .i64 8, .bool false, .bool false, .pointer none, .int .i64 0, .int .i64 0, .slice none 0 0, .pointer none], .int .i64 p, .int .i64 r] w  (PairIs x true w))
    (CU : ∀ w, Calls Try.prog 11 #[.string ⟨#[43]⟩, .agg #[.int .i64 1, .int .i64 8, .bool false, .bool false, .pointer none, .int .i64 0, .int .i64 0, .slice none 0 0, .pointer none], .int .i64 x, .int .i64 y] w  (PairIs u true w))
    (CV : ∀ w, Calls Try.prog 11 #[.string ⟨#[43]⟩, .agg #[.int .i64 1, .int .i64 8, .bool false, .bool false, .pointer none, .int .i64 0, .int .i64 0, .slice none 0 0, .pointer none], .int .i64 y, .int .i64 x] w  (PairIs u true w))
    (CW : ∀ w, Calls Try.prog 11 #[.string ⟨#[45]⟩, .agg #[.int .i64 1, .int .i64 8, .bool false, .bool false, .pointer none, .int .i64 0, .int .i64 0, .slice none 0 0, .pointer none], .int .i64 u, .int .i64 y] w  (PairIs x true w))
    (w : World) : Calls Try.prog 5 #[.int .i64 how, .int .i64 a, .int .i64 b] w (BoolIs true w) := by
  have HT := Lib.hid CT
  have HX := Lib.hid CX
  have HY := Lib.hid CY
  have HQ := Lib.hid CQ
  have HR := Lib.hid CR
  have HP := Lib.hid CP
  have HS := Lib.hid CS
  have HU := Lib.hid CU
  have HV := Lib.hid CV
  have HW := Lib.hid CW
  clear CT CX CY CQ CR CP CS CU CV CW
  go_enter Try.func5, Try.ntmps5
  go_wp2_with fail
  refine (fit_law _).mono ?_
  rintro e w1 ⟨rfl, hb1⟩
  go_wp2_with fail
  refine (HT.out _).mono ?_
  rintro e w2 ⟨rfl, hb2⟩
  rw [show tV 8 false = .agg #[.int .i64 1, .int .i64 8, .bool false, .bool false, .pointer none, .int .i64 0, .int .i64 0, .slice none 0 0, .pointer none] from rfl]
  have HBA := Lib.hid (hb1.trans (hb2.mono hb1.size))
  clear hb1 hb2
  go_wp2_with fail
  generalize hW : w2.alloc _ = W
  have hbW : Below w.heap.size w W := by rw [← hW]; exact HBA.out.alloc HBA.out.size _
  have hsW : W.heap.size = w2.heap.size + 1 := by rw [← hW]; simp
  have HK : Hid (T9 W w2.heap.size 8 false) := Lib.hid (by rw [← hW]; exact t9_alloc w2 8 false _)
  have HBW := Lib.hid hbW
  have HSW := Lib.hid hsW
  have HSZ := Lib.hid (HBA.out.size)
  obtain ⟨k0_0, k0_1, k0_2, k0_3, k0_4, k0_5, k0_6, k0_7, k0_8⟩ := HK.out
  rw [show ((8 : Nat) : Int) = 8 from rfl] at k0_1
  clear hW hbW hsW HBA
  go_region_held3 (fun w' => w'.cell? ⟨w2.heap.size, 0, none⟩ = some (.int .i64 1) ∧ w'.cell? ⟨w2.heap.size, 1, none⟩ = some (.int .i64 8) ∧ w'.cell? ⟨w2.heap.size, 2, none⟩ = some (.bool false) ∧ w'.cell? ⟨w2.heap.size, 3, none⟩ = some (.bool false) ∧ w'.cell? ⟨w2.heap.size, 4, none⟩ = some (.pointer none) ∧ w'.cell? ⟨w2.heap.size, 5, none⟩ = some (.int .i64 0) ∧ w'.cell? ⟨w2.heap.size, 6, none⟩ = some (.int .i64 0) ∧ w'.cell? ⟨w2.heap.size, 7, none⟩ = some (.slice none 0 0) ∧ w'.cell? ⟨w2.heap.size, 8, none⟩ = some (.pointer none)) (go_keep)
    (first
      | (go_at_call 13
         (with_reducible refine (HY.out _).mono ?_)
         rintro e w_2 ⟨rfl, hb2⟩
         have HB2 : Hid (Below W.heap.size W w_2) := Lib.hid (HB1.out.trans (hb2.mono HB1.out.size))
         obtain ⟨k2_0, k2_1, k2_2, k2_3, k2_4, k2_5, k2_6, k2_7, k2_8⟩ := HK.out.below HB2.out (by have := HSW.out; omega); rw [show ((8 : Nat) : Int) = 8 from rfl] at k2_1
         clear hb2 k1_0 k1_1 k1_2 k1_3 k1_4 k1_5 k1_6 k1_7 k1_8)
      | (go_at_call 13
         (with_reducible refine (HX.out _).mono ?_)
         rintro e w_1 ⟨rfl, hb1⟩
         have HB1 : Hid (Below W.heap.size W w_1) := Lib.hid ((Below.refl W.heap.size W).drew.trans hb1)
         obtain ⟨k1_0, k1_1, k1_2, k1_3, k1_4, k1_5, k1_6, k1_7, k1_8⟩ := HK.out.below HB1.out (by have := HSW.out; omega); rw [show ((8 : Nat) : Int) = 8 from rfl] at k1_1
         clear hb1 k0_0 k0_1 k0_2 k0_3 k0_4 k0_5 k0_6 k0_7 k0_8))
  go_wp2_with fail
  (with_reducible refine (HQ.out _).mono ?_)
  rintro e w_3 ⟨rfl, hb3⟩
  have HB3 : Hid (Below W.heap.size W w_3) := Lib.hid (HB2.out.trans (hb3.mono HB2.out.size))
  obtain ⟨k3_0, k3_1, k3_2, k3_3, k3_4, k3_5, k3_6, k3_7, k3_8⟩ := HK.out.below HB3.out (by have := HSW.out; omega); rw [show ((8 : Nat) : Int) = 8 from rfl] at k3_1
  clear hb3 k2_0 k2_1 k2_2 k2_3 k2_4 k2_5 k2_6 k2_7 k2_8
  go_wp2_with fail
  (with_reducible refine (HR.out _).mono ?_)
  rintro e w_4 ⟨rfl, hb4⟩
  have HB4 : Hid (Below W.heap.size W w_4) := Lib.hid (HB3.out.trans (hb4.mono HB3.out.size))
  obtain ⟨k4_0, k4_1, k4_2, k4_3, k4_4, k4_5, k4_6, k4_7, k4_8⟩ := HK.out.below HB4.out (by have := HSW.out; omega); rw [show ((8 : Nat) : Int) = 8 from rfl] at k4_1
  clear hb4 k3_0 k3_1 k3_2 k3_3 k3_4 k3_5 k3_6 k3_7 k3_8
  go_wp2_with fail
  (with_reducible refine (HP.out _).mono ?_)
  rintro e w_5 ⟨rfl, hb5⟩
  have HB5 : Hid (Below W.heap.size W w_5) := Lib.hid (HB4.out.trans (hb5.mono HB4.out.size))
  obtain ⟨k5_0, k5_1, k5_2, k5_3, k5_4, k5_5, k5_6, k5_7, k5_8⟩ := HK.out.below HB5.out (by have := HSW.out; omega); rw [show ((8 : Nat) : Int) = 8 from rfl] at k5_1
  clear hb5 k4_0 k4_1 k4_2 k4_3 k4_4 k4_5 k4_6 k4_7 k4_8
  go_wp2_with fail
  (with_reducible refine (HS.out _).mono ?_)
  rintro e w_6 ⟨rfl, hb6⟩
  have HB6 : Hid (Below W.heap.size W w_6) := Lib.hid (HB5.out.trans (hb6.mono HB5.out.size))
  obtain ⟨k6_0, k6_1, k6_2, k6_3, k6_4, k6_5, k6_6, k6_7, k6_8⟩ := HK.out.below HB6.out (by have := HSW.out; omega); rw [show ((8 : Nat) : Int) = 8 from rfl] at k6_1
  clear hb6 k5_0 k5_1 k5_2 k5_3 k5_4 k5_5 k5_6 k5_7 k5_8
  go_wp2_with fail
  (with_reducible refine (HU.out _).mono ?_)
  rintro e w_7 ⟨rfl, hb7⟩
  have HB7 : Hid (Below W.heap.size W w_7) := Lib.hid (HB6.out.trans (hb7.mono HB6.out.size))
  obtain ⟨k7_0, k7_1, k7_2, k7_3, k7_4, k7_5, k7_6, k7_7, k7_8⟩ := HK.out.below HB7.out (by have := HSW.out; omega); rw [show ((8 : Nat) : Int) = 8 from rfl] at k7_1
  clear hb7 k6_0 k6_1 k6_2 k6_3 k6_4 k6_5 k6_6 k6_7 k6_8
  go_wp2_with fail
  (with_reducible refine (HV.out _).mono ?_)
  rintro e w_8 ⟨rfl, hb8⟩
  have HB8 : Hid (Below W.heap.size W w_8) := Lib.hid (HB7.out.trans (hb8.mono HB7.out.size))
  obtain ⟨k8_0, k8_1, k8_2, k8_3, k8_4, k8_5, k8_6, k8_7, k8_8⟩ := HK.out.below HB8.out (by have := HSW.out; omega); rw [show ((8 : Nat) : Int) = 8 from rfl] at k8_1
  clear hb8 k7_0 k7_1 k7_2 k7_3 k7_4 k7_5 k7_6 k7_7 k7_8
  go_wp2_with fail
  (with_reducible refine (HW.out _).mono ?_)
  rintro e w_9 ⟨rfl, hb9⟩
  have HB9 : Hid (Below W.heap.size W w_9) := Lib.hid (HB8.out.trans (hb9.mono HB8.out.size))
  obtain ⟨k9_0, k9_1, k9_2, k9_3, k9_4, k9_5, k9_6, k9_7, k9_8⟩ := HK.out.below HB9.out (by have := HSW.out; omega); rw [show ((8 : Nat) : Int) = 8 from rfl] at k9_1
  clear hb9 k8_0 k8_1 k8_2 k8_3 k8_4 k8_5 k8_6 k8_7 k8_8
  go_wp2_with fail
  go_ret
  exact ⟨rfl, HBW.out.trans (HB9.out.mono (by have := HSW.out; have := HSZ.out; omega))⟩

set_option maxHeartbeats 8000000 in
theorem parts_c (how a b x y q r p u : Int) (f0 : (y == 0) = false) (f1 : (x == -9223372036854775808) = false)
    (CT : ∀ w, Calls Try.prog 8 #[.int .i64 how] w (TypeIs 8 true w))
    (CX : ∀ w, Calls Try.prog 13 #[.agg #[.int .i64 1, .int .i64 8, .bool true, .bool false, .pointer none, .int .i64 0, .int .i64 0, .slice none 0 0, .pointer none], .int .i64 a] w (IntIs .i64 x w))
    (CY : ∀ w, Calls Try.prog 13 #[.agg #[.int .i64 1, .int .i64 8, .bool true, .bool false, .pointer none, .int .i64 0, .int .i64 0, .slice none 0 0, .pointer none], .int .i64 b] w (IntIs .i64 y w))
    (CQ : ∀ w, Calls Try.prog 11 #[.string ⟨#[47]⟩, .agg #[.int .i64 1, .int .i64 8, .bool true, .bool false, .pointer none, .int .i64 0, .int .i64 0, .slice none 0 0, .pointer none], .int .i64 x, .int .i64 y] w  (PairIs q true w))
    (CR : ∀ w, Calls Try.prog 11 #[.string ⟨#[37]⟩, .agg #[.int .i64 1, .int .i64 8, .bool true, .bool false, .pointer none, .int .i64 0, .int .i64 0, .slice none 0 0, .pointer none], .int .i64 x, .int .i64 y] w  (PairIs r true w))
    (CP : ∀ w, Calls Try.prog 11 #[.string ⟨#[42]⟩, .agg #[.int .i64 1, .int .i64 8, .bool true, .bool false, .pointer none, .int .i64 0, .int .i64 0, .slice none 0 0, .pointer none], .int .i64 q, .int .i64 y] w  (PairIs p true w))
    (CS : ∀ w, Calls Try.prog 11 #[.string ⟨#[43]⟩, .agg #[.int .i64 1, .int .i64 8, .bool true, .bool false, .pointer none, .int .i64 0, .int .i64 0, .slice none 0 0, .pointer none], .int .i64 p, .int .i64 r] w  (PairIs x true w))
    (CU : ∀ w, Calls Try.prog 11 #[.string ⟨#[43]⟩, .agg #[.int .i64 1, .int .i64 8, .bool true, .bool false, .pointer none, .int .i64 0, .int .i64 0, .slice none 0 0, .pointer none], .int .i64 x, .int .i64 y] w  (PairIs u true w))
    (CV : ∀ w, Calls Try.prog 11 #[.string ⟨#[43]⟩, .agg #[.int .i64 1, .int .i64 8, .bool true, .bool false, .pointer none, .int .i64 0, .int .i64 0, .slice none 0 0, .pointer none], .int .i64 y, .int .i64 x] w  (PairIs u true w))
    (CW : ∀ w, Calls Try.prog 11 #[.string ⟨#[45]⟩, .agg #[.int .i64 1, .int .i64 8, .bool true, .bool false, .pointer none, .int .i64 0, .int .i64 0, .slice none 0 0, .pointer none], .int .i64 u, .int .i64 y] w  (PairIs x true w))
    (w : World) : Calls Try.prog 5 #[.int .i64 how, .int .i64 a, .int .i64 b] w (BoolIs true w) := by
  have HT := Lib.hid CT
  have HX := Lib.hid CX
  have HY := Lib.hid CY
  have HQ := Lib.hid CQ
  have HR := Lib.hid CR
  have HP := Lib.hid CP
  have HS := Lib.hid CS
  have HU := Lib.hid CU
  have HV := Lib.hid CV
  have HW := Lib.hid CW
  clear CT CX CY CQ CR CP CS CU CV CW
  go_enter Try.func5, Try.ntmps5
  go_wp2_with fail
  refine (fit_law _).mono ?_
  rintro e w1 ⟨rfl, hb1⟩
  go_wp2_with fail
  refine (HT.out _).mono ?_
  rintro e w2 ⟨rfl, hb2⟩
  rw [show tV 8 true = .agg #[.int .i64 1, .int .i64 8, .bool true, .bool false, .pointer none, .int .i64 0, .int .i64 0, .slice none 0 0, .pointer none] from rfl]
  have HBA := Lib.hid (hb1.trans (hb2.mono hb1.size))
  clear hb1 hb2
  go_wp2_with fail
  generalize hW : w2.alloc _ = W
  have hbW : Below w.heap.size w W := by rw [← hW]; exact HBA.out.alloc HBA.out.size _
  have hsW : W.heap.size = w2.heap.size + 1 := by rw [← hW]; simp
  have HK : Hid (T9 W w2.heap.size 8 true) := Lib.hid (by rw [← hW]; exact t9_alloc w2 8 true _)
  have HBW := Lib.hid hbW
  have HSW := Lib.hid hsW
  have HSZ := Lib.hid (HBA.out.size)
  obtain ⟨k0_0, k0_1, k0_2, k0_3, k0_4, k0_5, k0_6, k0_7, k0_8⟩ := HK.out
  rw [show ((8 : Nat) : Int) = 8 from rfl] at k0_1
  clear hW hbW hsW HBA
  go_region_held3 (fun w' => w'.cell? ⟨w2.heap.size, 0, none⟩ = some (.int .i64 1) ∧ w'.cell? ⟨w2.heap.size, 1, none⟩ = some (.int .i64 8) ∧ w'.cell? ⟨w2.heap.size, 2, none⟩ = some (.bool true) ∧ w'.cell? ⟨w2.heap.size, 3, none⟩ = some (.bool false) ∧ w'.cell? ⟨w2.heap.size, 4, none⟩ = some (.pointer none) ∧ w'.cell? ⟨w2.heap.size, 5, none⟩ = some (.int .i64 0) ∧ w'.cell? ⟨w2.heap.size, 6, none⟩ = some (.int .i64 0) ∧ w'.cell? ⟨w2.heap.size, 7, none⟩ = some (.slice none 0 0) ∧ w'.cell? ⟨w2.heap.size, 8, none⟩ = some (.pointer none)) (go_keep)
    (first
      | (go_at_call 13
         (with_reducible refine (HY.out _).mono ?_)
         rintro e w_2 ⟨rfl, hb2⟩
         have HB2 : Hid (Below W.heap.size W w_2) := Lib.hid (HB1.out.trans (hb2.mono HB1.out.size))
         obtain ⟨k2_0, k2_1, k2_2, k2_3, k2_4, k2_5, k2_6, k2_7, k2_8⟩ := HK.out.below HB2.out (by have := HSW.out; omega); rw [show ((8 : Nat) : Int) = 8 from rfl] at k2_1
         clear hb2 k1_0 k1_1 k1_2 k1_3 k1_4 k1_5 k1_6 k1_7 k1_8)
      | (go_at_call 13
         (with_reducible refine (HX.out _).mono ?_)
         rintro e w_1 ⟨rfl, hb1⟩
         have HB1 : Hid (Below W.heap.size W w_1) := Lib.hid ((Below.refl W.heap.size W).drew.trans hb1)
         obtain ⟨k1_0, k1_1, k1_2, k1_3, k1_4, k1_5, k1_6, k1_7, k1_8⟩ := HK.out.below HB1.out (by have := HSW.out; omega); rw [show ((8 : Nat) : Int) = 8 from rfl] at k1_1
         clear hb1 k0_0 k0_1 k0_2 k0_3 k0_4 k0_5 k0_6 k0_7 k0_8))
  go_wp2_with fail
  (with_reducible refine (HQ.out _).mono ?_)
  rintro e w_3 ⟨rfl, hb3⟩
  have HB3 : Hid (Below W.heap.size W w_3) := Lib.hid (HB2.out.trans (hb3.mono HB2.out.size))
  obtain ⟨k3_0, k3_1, k3_2, k3_3, k3_4, k3_5, k3_6, k3_7, k3_8⟩ := HK.out.below HB3.out (by have := HSW.out; omega); rw [show ((8 : Nat) : Int) = 8 from rfl] at k3_1
  clear hb3 k2_0 k2_1 k2_2 k2_3 k2_4 k2_5 k2_6 k2_7 k2_8
  go_wp2_with fail
  (with_reducible refine (HR.out _).mono ?_)
  rintro e w_4 ⟨rfl, hb4⟩
  have HB4 : Hid (Below W.heap.size W w_4) := Lib.hid (HB3.out.trans (hb4.mono HB3.out.size))
  obtain ⟨k4_0, k4_1, k4_2, k4_3, k4_4, k4_5, k4_6, k4_7, k4_8⟩ := HK.out.below HB4.out (by have := HSW.out; omega); rw [show ((8 : Nat) : Int) = 8 from rfl] at k4_1
  clear hb4 k3_0 k3_1 k3_2 k3_3 k3_4 k3_5 k3_6 k3_7 k3_8
  go_wp2_with fail
  (with_reducible refine (HP.out _).mono ?_)
  rintro e w_5 ⟨rfl, hb5⟩
  have HB5 : Hid (Below W.heap.size W w_5) := Lib.hid (HB4.out.trans (hb5.mono HB4.out.size))
  obtain ⟨k5_0, k5_1, k5_2, k5_3, k5_4, k5_5, k5_6, k5_7, k5_8⟩ := HK.out.below HB5.out (by have := HSW.out; omega); rw [show ((8 : Nat) : Int) = 8 from rfl] at k5_1
  clear hb5 k4_0 k4_1 k4_2 k4_3 k4_4 k4_5 k4_6 k4_7 k4_8
  go_wp2_with fail
  (with_reducible refine (HS.out _).mono ?_)
  rintro e w_6 ⟨rfl, hb6⟩
  have HB6 : Hid (Below W.heap.size W w_6) := Lib.hid (HB5.out.trans (hb6.mono HB5.out.size))
  obtain ⟨k6_0, k6_1, k6_2, k6_3, k6_4, k6_5, k6_6, k6_7, k6_8⟩ := HK.out.below HB6.out (by have := HSW.out; omega); rw [show ((8 : Nat) : Int) = 8 from rfl] at k6_1
  clear hb6 k5_0 k5_1 k5_2 k5_3 k5_4 k5_5 k5_6 k5_7 k5_8
  go_wp2_with fail
  (with_reducible refine (HU.out _).mono ?_)
  rintro e w_7 ⟨rfl, hb7⟩
  have HB7 : Hid (Below W.heap.size W w_7) := Lib.hid (HB6.out.trans (hb7.mono HB6.out.size))
  obtain ⟨k7_0, k7_1, k7_2, k7_3, k7_4, k7_5, k7_6, k7_7, k7_8⟩ := HK.out.below HB7.out (by have := HSW.out; omega); rw [show ((8 : Nat) : Int) = 8 from rfl] at k7_1
  clear hb7 k6_0 k6_1 k6_2 k6_3 k6_4 k6_5 k6_6 k6_7 k6_8
  go_wp2_with fail
  (with_reducible refine (HV.out _).mono ?_)
  rintro e w_8 ⟨rfl, hb8⟩
  have HB8 : Hid (Below W.heap.size W w_8) := Lib.hid (HB7.out.trans (hb8.mono HB7.out.size))
  obtain ⟨k8_0, k8_1, k8_2, k8_3, k8_4, k8_5, k8_6, k8_7, k8_8⟩ := HK.out.below HB8.out (by have := HSW.out; omega); rw [show ((8 : Nat) : Int) = 8 from rfl] at k8_1
  clear hb8 k7_0 k7_1 k7_2 k7_3 k7_4 k7_5 k7_6 k7_7 k7_8
  go_wp2_with fail
  (with_reducible refine (HW.out _).mono ?_)
  rintro e w_9 ⟨rfl, hb9⟩
  have HB9 : Hid (Below W.heap.size W w_9) := Lib.hid (HB8.out.trans (hb9.mono HB8.out.size))
  obtain ⟨k9_0, k9_1, k9_2, k9_3, k9_4, k9_5, k9_6, k9_7, k9_8⟩ := HK.out.below HB9.out (by have := HSW.out; omega); rw [show ((8 : Nat) : Int) = 8 from rfl] at k9_1
  clear hb9 k8_0 k8_1 k8_2 k8_3 k8_4 k8_5 k8_6 k8_7 k8_8
  go_wp2_with fail
  go_ret
  exact ⟨rfl, HBW.out.trans (HB9.out.mono (by have := HSW.out; have := HSZ.out; omega))⟩

set_option maxHeartbeats 8000000 in
theorem parts_d (how a b y q r p u : Int) (f0 : (y == 0) = false) (f1 : (y == -1) = false)
    (CT : ∀ w, Calls Try.prog 8 #[.int .i64 how] w (TypeIs 8 true w))
    (CX : ∀ w, Calls Try.prog 13 #[.agg #[.int .i64 1, .int .i64 8, .bool true, .bool false, .pointer none, .int .i64 0, .int .i64 0, .slice none 0 0, .pointer none], .int .i64 a] w (IntIs .i64 (-9223372036854775808) w))
    (CY : ∀ w, Calls Try.prog 13 #[.agg #[.int .i64 1, .int .i64 8, .bool true, .bool false, .pointer none, .int .i64 0, .int .i64 0, .slice none 0 0, .pointer none], .int .i64 b] w (IntIs .i64 y w))
    (CQ : ∀ w, Calls Try.prog 11 #[.string ⟨#[47]⟩, .agg #[.int .i64 1, .int .i64 8, .bool true, .bool false, .pointer none, .int .i64 0, .int .i64 0, .slice none 0 0, .pointer none], .int .i64 (-9223372036854775808), .int .i64 y] w  (PairIs q true w))
    (CR : ∀ w, Calls Try.prog 11 #[.string ⟨#[37]⟩, .agg #[.int .i64 1, .int .i64 8, .bool true, .bool false, .pointer none, .int .i64 0, .int .i64 0, .slice none 0 0, .pointer none], .int .i64 (-9223372036854775808), .int .i64 y] w  (PairIs r true w))
    (CP : ∀ w, Calls Try.prog 11 #[.string ⟨#[42]⟩, .agg #[.int .i64 1, .int .i64 8, .bool true, .bool false, .pointer none, .int .i64 0, .int .i64 0, .slice none 0 0, .pointer none], .int .i64 q, .int .i64 y] w  (PairIs p true w))
    (CS : ∀ w, Calls Try.prog 11 #[.string ⟨#[43]⟩, .agg #[.int .i64 1, .int .i64 8, .bool true, .bool false, .pointer none, .int .i64 0, .int .i64 0, .slice none 0 0, .pointer none], .int .i64 p, .int .i64 r] w  (PairIs (-9223372036854775808) true w))
    (CU : ∀ w, Calls Try.prog 11 #[.string ⟨#[43]⟩, .agg #[.int .i64 1, .int .i64 8, .bool true, .bool false, .pointer none, .int .i64 0, .int .i64 0, .slice none 0 0, .pointer none], .int .i64 (-9223372036854775808), .int .i64 y] w  (PairIs u true w))
    (CV : ∀ w, Calls Try.prog 11 #[.string ⟨#[43]⟩, .agg #[.int .i64 1, .int .i64 8, .bool true, .bool false, .pointer none, .int .i64 0, .int .i64 0, .slice none 0 0, .pointer none], .int .i64 y, .int .i64 (-9223372036854775808)] w  (PairIs u true w))
    (CW : ∀ w, Calls Try.prog 11 #[.string ⟨#[45]⟩, .agg #[.int .i64 1, .int .i64 8, .bool true, .bool false, .pointer none, .int .i64 0, .int .i64 0, .slice none 0 0, .pointer none], .int .i64 u, .int .i64 y] w  (PairIs (-9223372036854775808) true w))
    (w : World) : Calls Try.prog 5 #[.int .i64 how, .int .i64 a, .int .i64 b] w (BoolIs true w) := by
  have HT := Lib.hid CT
  have HX := Lib.hid CX
  have HY := Lib.hid CY
  have HQ := Lib.hid CQ
  have HR := Lib.hid CR
  have HP := Lib.hid CP
  have HS := Lib.hid CS
  have HU := Lib.hid CU
  have HV := Lib.hid CV
  have HW := Lib.hid CW
  clear CT CX CY CQ CR CP CS CU CV CW
  go_enter Try.func5, Try.ntmps5
  go_wp2_with fail
  refine (fit_law _).mono ?_
  rintro e w1 ⟨rfl, hb1⟩
  go_wp2_with fail
  refine (HT.out _).mono ?_
  rintro e w2 ⟨rfl, hb2⟩
  rw [show tV 8 true = .agg #[.int .i64 1, .int .i64 8, .bool true, .bool false, .pointer none, .int .i64 0, .int .i64 0, .slice none 0 0, .pointer none] from rfl]
  have HBA := Lib.hid (hb1.trans (hb2.mono hb1.size))
  clear hb1 hb2
  go_wp2_with fail
  generalize hW : w2.alloc _ = W
  have hbW : Below w.heap.size w W := by rw [← hW]; exact HBA.out.alloc HBA.out.size _
  have hsW : W.heap.size = w2.heap.size + 1 := by rw [← hW]; simp
  have HK : Hid (T9 W w2.heap.size 8 true) := Lib.hid (by rw [← hW]; exact t9_alloc w2 8 true _)
  have HBW := Lib.hid hbW
  have HSW := Lib.hid hsW
  have HSZ := Lib.hid (HBA.out.size)
  obtain ⟨k0_0, k0_1, k0_2, k0_3, k0_4, k0_5, k0_6, k0_7, k0_8⟩ := HK.out
  rw [show ((8 : Nat) : Int) = 8 from rfl] at k0_1
  clear hW hbW hsW HBA
  go_region_held3 (fun w' => w'.cell? ⟨w2.heap.size, 0, none⟩ = some (.int .i64 1) ∧ w'.cell? ⟨w2.heap.size, 1, none⟩ = some (.int .i64 8) ∧ w'.cell? ⟨w2.heap.size, 2, none⟩ = some (.bool true) ∧ w'.cell? ⟨w2.heap.size, 3, none⟩ = some (.bool false) ∧ w'.cell? ⟨w2.heap.size, 4, none⟩ = some (.pointer none) ∧ w'.cell? ⟨w2.heap.size, 5, none⟩ = some (.int .i64 0) ∧ w'.cell? ⟨w2.heap.size, 6, none⟩ = some (.int .i64 0) ∧ w'.cell? ⟨w2.heap.size, 7, none⟩ = some (.slice none 0 0) ∧ w'.cell? ⟨w2.heap.size, 8, none⟩ = some (.pointer none)) (go_keep)
    (first
      | (go_at_call 13
         (with_reducible refine (HY.out _).mono ?_)
         rintro e w_2 ⟨rfl, hb2⟩
         have HB2 : Hid (Below W.heap.size W w_2) := Lib.hid (HB1.out.trans (hb2.mono HB1.out.size))
         obtain ⟨k2_0, k2_1, k2_2, k2_3, k2_4, k2_5, k2_6, k2_7, k2_8⟩ := HK.out.below HB2.out (by have := HSW.out; omega); rw [show ((8 : Nat) : Int) = 8 from rfl] at k2_1
         clear hb2 k1_0 k1_1 k1_2 k1_3 k1_4 k1_5 k1_6 k1_7 k1_8)
      | (go_at_call 13
         (with_reducible refine (HX.out _).mono ?_)
         rintro e w_1 ⟨rfl, hb1⟩
         have HB1 : Hid (Below W.heap.size W w_1) := Lib.hid ((Below.refl W.heap.size W).drew.trans hb1)
         obtain ⟨k1_0, k1_1, k1_2, k1_3, k1_4, k1_5, k1_6, k1_7, k1_8⟩ := HK.out.below HB1.out (by have := HSW.out; omega); rw [show ((8 : Nat) : Int) = 8 from rfl] at k1_1
         clear hb1 k0_0 k0_1 k0_2 k0_3 k0_4 k0_5 k0_6 k0_7 k0_8))
  go_wp2_with fail
  (with_reducible refine (HQ.out _).mono ?_)
  rintro e w_3 ⟨rfl, hb3⟩
  have HB3 : Hid (Below W.heap.size W w_3) := Lib.hid (HB2.out.trans (hb3.mono HB2.out.size))
  obtain ⟨k3_0, k3_1, k3_2, k3_3, k3_4, k3_5, k3_6, k3_7, k3_8⟩ := HK.out.below HB3.out (by have := HSW.out; omega); rw [show ((8 : Nat) : Int) = 8 from rfl] at k3_1
  clear hb3 k2_0 k2_1 k2_2 k2_3 k2_4 k2_5 k2_6 k2_7 k2_8
  go_wp2_with fail
  (with_reducible refine (HR.out _).mono ?_)
  rintro e w_4 ⟨rfl, hb4⟩
  have HB4 : Hid (Below W.heap.size W w_4) := Lib.hid (HB3.out.trans (hb4.mono HB3.out.size))
  obtain ⟨k4_0, k4_1, k4_2, k4_3, k4_4, k4_5, k4_6, k4_7, k4_8⟩ := HK.out.below HB4.out (by have := HSW.out; omega); rw [show ((8 : Nat) : Int) = 8 from rfl] at k4_1
  clear hb4 k3_0 k3_1 k3_2 k3_3 k3_4 k3_5 k3_6 k3_7 k3_8
  go_wp2_with fail
  (with_reducible refine (HP.out _).mono ?_)
  rintro e w_5 ⟨rfl, hb5⟩
  have HB5 : Hid (Below W.heap.size W w_5) := Lib.hid (HB4.out.trans (hb5.mono HB4.out.size))
  obtain ⟨k5_0, k5_1, k5_2, k5_3, k5_4, k5_5, k5_6, k5_7, k5_8⟩ := HK.out.below HB5.out (by have := HSW.out; omega); rw [show ((8 : Nat) : Int) = 8 from rfl] at k5_1
  clear hb5 k4_0 k4_1 k4_2 k4_3 k4_4 k4_5 k4_6 k4_7 k4_8
  go_wp2_with fail
  (with_reducible refine (HS.out _).mono ?_)
  rintro e w_6 ⟨rfl, hb6⟩
  have HB6 : Hid (Below W.heap.size W w_6) := Lib.hid (HB5.out.trans (hb6.mono HB5.out.size))
  obtain ⟨k6_0, k6_1, k6_2, k6_3, k6_4, k6_5, k6_6, k6_7, k6_8⟩ := HK.out.below HB6.out (by have := HSW.out; omega); rw [show ((8 : Nat) : Int) = 8 from rfl] at k6_1
  clear hb6 k5_0 k5_1 k5_2 k5_3 k5_4 k5_5 k5_6 k5_7 k5_8
  go_wp2_with fail
  (with_reducible refine (HU.out _).mono ?_)
  rintro e w_7 ⟨rfl, hb7⟩
  have HB7 : Hid (Below W.heap.size W w_7) := Lib.hid (HB6.out.trans (hb7.mono HB6.out.size))
  obtain ⟨k7_0, k7_1, k7_2, k7_3, k7_4, k7_5, k7_6, k7_7, k7_8⟩ := HK.out.below HB7.out (by have := HSW.out; omega); rw [show ((8 : Nat) : Int) = 8 from rfl] at k7_1
  clear hb7 k6_0 k6_1 k6_2 k6_3 k6_4 k6_5 k6_6 k6_7 k6_8
  go_wp2_with fail
  (with_reducible refine (HV.out _).mono ?_)
  rintro e w_8 ⟨rfl, hb8⟩
  have HB8 : Hid (Below W.heap.size W w_8) := Lib.hid (HB7.out.trans (hb8.mono HB7.out.size))
  obtain ⟨k8_0, k8_1, k8_2, k8_3, k8_4, k8_5, k8_6, k8_7, k8_8⟩ := HK.out.below HB8.out (by have := HSW.out; omega); rw [show ((8 : Nat) : Int) = 8 from rfl] at k8_1
  clear hb8 k7_0 k7_1 k7_2 k7_3 k7_4 k7_5 k7_6 k7_7 k7_8
  go_wp2_with fail
  (with_reducible refine (HW.out _).mono ?_)
  rintro e w_9 ⟨rfl, hb9⟩
  have HB9 : Hid (Below W.heap.size W w_9) := Lib.hid (HB8.out.trans (hb9.mono HB8.out.size))
  obtain ⟨k9_0, k9_1, k9_2, k9_3, k9_4, k9_5, k9_6, k9_7, k9_8⟩ := HK.out.below HB9.out (by have := HSW.out; omega); rw [show ((8 : Nat) : Int) = 8 from rfl] at k9_1
  clear hb9 k8_0 k8_1 k8_2 k8_3 k8_4 k8_5 k8_6 k8_7 k8_8
  go_wp2_with fail
  go_ret
  exact ⟨rfl, HBW.out.trans (HB9.out.mono (by have := HSW.out; have := HSZ.out; omega))⟩

set_option maxHeartbeats 8000000 in
theorem parts_e (sz : Nat) (sg : Bool) (how a b x q r p s u : Int) 
    (CT : ∀ w, Calls Try.prog 8 #[.int .i64 how] w (TypeIs sz sg w))
    (CX : ∀ w, Calls Try.prog 13 #[.agg #[.int .i64 1, .int .i64 sz, .bool sg, .bool false, .pointer none, .int .i64 0, .int .i64 0, .slice none 0 0, .pointer none], .int .i64 a] w (IntIs .i64 x w))
    (CY : ∀ w, Calls Try.prog 13 #[.agg #[.int .i64 1, .int .i64 sz, .bool sg, .bool false, .pointer none, .int .i64 0, .int .i64 0, .slice none 0 0, .pointer none], .int .i64 b] w (IntIs .i64 0 w))
    (CQ : ∀ w, Calls Try.prog 11 #[.string ⟨#[47]⟩, .agg #[.int .i64 1, .int .i64 sz, .bool sg, .bool false, .pointer none, .int .i64 0, .int .i64 0, .slice none 0 0, .pointer none], .int .i64 x, .int .i64 0] w  (PairIs q false w))
    (CR : ∀ w, Calls Try.prog 11 #[.string ⟨#[37]⟩, .agg #[.int .i64 1, .int .i64 sz, .bool sg, .bool false, .pointer none, .int .i64 0, .int .i64 0, .slice none 0 0, .pointer none], .int .i64 x, .int .i64 0] w  (PairIs r false w))
    (CP : ∀ w, Calls Try.prog 11 #[.string ⟨#[42]⟩, .agg #[.int .i64 1, .int .i64 sz, .bool sg, .bool false, .pointer none, .int .i64 0, .int .i64 0, .slice none 0 0, .pointer none], .int .i64 q, .int .i64 0] w  (PairIs p true w))
    (CS : ∀ w, Calls Try.prog 11 #[.string ⟨#[43]⟩, .agg #[.int .i64 1, .int .i64 sz, .bool sg, .bool false, .pointer none, .int .i64 0, .int .i64 0, .slice none 0 0, .pointer none], .int .i64 p, .int .i64 r] w  (PairIs s true w))
    (CU : ∀ w, Calls Try.prog 11 #[.string ⟨#[43]⟩, .agg #[.int .i64 1, .int .i64 sz, .bool sg, .bool false, .pointer none, .int .i64 0, .int .i64 0, .slice none 0 0, .pointer none], .int .i64 x, .int .i64 0] w  (PairIs u true w))
    (CV : ∀ w, Calls Try.prog 11 #[.string ⟨#[43]⟩, .agg #[.int .i64 1, .int .i64 sz, .bool sg, .bool false, .pointer none, .int .i64 0, .int .i64 0, .slice none 0 0, .pointer none], .int .i64 0, .int .i64 x] w  (PairIs u true w))
    (CW : ∀ w, Calls Try.prog 11 #[.string ⟨#[45]⟩, .agg #[.int .i64 1, .int .i64 sz, .bool sg, .bool false, .pointer none, .int .i64 0, .int .i64 0, .slice none 0 0, .pointer none], .int .i64 u, .int .i64 0] w  (PairIs x true w))
    (w : World) : Calls Try.prog 5 #[.int .i64 how, .int .i64 a, .int .i64 b] w (BoolIs true w) := by
  have HT := Lib.hid CT
  have HX := Lib.hid CX
  have HY := Lib.hid CY
  have HQ := Lib.hid CQ
  have HR := Lib.hid CR
  have HP := Lib.hid CP
  have HS := Lib.hid CS
  have HU := Lib.hid CU
  have HV := Lib.hid CV
  have HW := Lib.hid CW
  clear CT CX CY CQ CR CP CS CU CV CW
  go_enter Try.func5, Try.ntmps5
  go_wp2_with fail
  refine (fit_law _).mono ?_
  rintro e w1 ⟨rfl, hb1⟩
  go_wp2_with fail
  refine (HT.out _).mono ?_
  rintro e w2 ⟨rfl, hb2⟩
  rw [show tV sz sg = .agg #[.int .i64 1, .int .i64 sz, .bool sg, .bool false, .pointer none, .int .i64 0, .int .i64 0, .slice none 0 0, .pointer none] from rfl]
  have HBA := Lib.hid (hb1.trans (hb2.mono hb1.size))
  clear hb1 hb2
  go_wp2_with fail
  generalize hW : w2.alloc _ = W
  have hbW : Below w.heap.size w W := by rw [← hW]; exact HBA.out.alloc HBA.out.size _
  have hsW : W.heap.size = w2.heap.size + 1 := by rw [← hW]; simp
  have HK : Hid (T9 W w2.heap.size sz sg) := Lib.hid (by rw [← hW]; exact t9_alloc w2 sz sg _)
  have HBW := Lib.hid hbW
  have HSW := Lib.hid hsW
  have HSZ := Lib.hid (HBA.out.size)
  obtain ⟨k0_0, k0_1, k0_2, k0_3, k0_4, k0_5, k0_6, k0_7, k0_8⟩ := HK.out
  skip
  clear hW hbW hsW HBA
  go_region_held3 (fun w' => w'.cell? ⟨w2.heap.size, 0, none⟩ = some (.int .i64 1) ∧ w'.cell? ⟨w2.heap.size, 1, none⟩ = some (.int .i64 sz) ∧ w'.cell? ⟨w2.heap.size, 2, none⟩ = some (.bool sg) ∧ w'.cell? ⟨w2.heap.size, 3, none⟩ = some (.bool false) ∧ w'.cell? ⟨w2.heap.size, 4, none⟩ = some (.pointer none) ∧ w'.cell? ⟨w2.heap.size, 5, none⟩ = some (.int .i64 0) ∧ w'.cell? ⟨w2.heap.size, 6, none⟩ = some (.int .i64 0) ∧ w'.cell? ⟨w2.heap.size, 7, none⟩ = some (.slice none 0 0) ∧ w'.cell? ⟨w2.heap.size, 8, none⟩ = some (.pointer none)) (go_keep)
    (first
      | (go_at_call 13
         (with_reducible refine (HY.out _).mono ?_)
         rintro e w_2 ⟨rfl, hb2⟩
         have HB2 : Hid (Below W.heap.size W w_2) := Lib.hid (HB1.out.trans (hb2.mono HB1.out.size))
         obtain ⟨k2_0, k2_1, k2_2, k2_3, k2_4, k2_5, k2_6, k2_7, k2_8⟩ := HK.out.below HB2.out (by have := HSW.out; omega)
         clear hb2 k1_0 k1_1 k1_2 k1_3 k1_4 k1_5 k1_6 k1_7 k1_8)
      | (go_at_call 13
         (with_reducible refine (HX.out _).mono ?_)
         rintro e w_1 ⟨rfl, hb1⟩
         have HB1 : Hid (Below W.heap.size W w_1) := Lib.hid ((Below.refl W.heap.size W).drew.trans hb1)
         obtain ⟨k1_0, k1_1, k1_2, k1_3, k1_4, k1_5, k1_6, k1_7, k1_8⟩ := HK.out.below HB1.out (by have := HSW.out; omega)
         clear hb1 k0_0 k0_1 k0_2 k0_3 k0_4 k0_5 k0_6 k0_7 k0_8))
  go_wp2_with fail
  (with_reducible refine (HQ.out _).mono ?_)
  rintro e w_3 ⟨rfl, hb3⟩
  have HB3 : Hid (Below W.heap.size W w_3) := Lib.hid (HB2.out.trans (hb3.mono HB2.out.size))
  obtain ⟨k3_0, k3_1, k3_2, k3_3, k3_4, k3_5, k3_6, k3_7, k3_8⟩ := HK.out.below HB3.out (by have := HSW.out; omega)
  clear hb3 k2_0 k2_1 k2_2 k2_3 k2_4 k2_5 k2_6 k2_7 k2_8
  go_wp2_with fail
  (with_reducible refine (HR.out _).mono ?_)
  rintro e w_4 ⟨rfl, hb4⟩
  have HB4 : Hid (Below W.heap.size W w_4) := Lib.hid (HB3.out.trans (hb4.mono HB3.out.size))
  obtain ⟨k4_0, k4_1, k4_2, k4_3, k4_4, k4_5, k4_6, k4_7, k4_8⟩ := HK.out.below HB4.out (by have := HSW.out; omega)
  clear hb4 k3_0 k3_1 k3_2 k3_3 k3_4 k3_5 k3_6 k3_7 k3_8
  go_wp2_with fail
  (with_reducible refine (HP.out _).mono ?_)
  rintro e w_5 ⟨rfl, hb5⟩
  have HB5 : Hid (Below W.heap.size W w_5) := Lib.hid (HB4.out.trans (hb5.mono HB4.out.size))
  obtain ⟨k5_0, k5_1, k5_2, k5_3, k5_4, k5_5, k5_6, k5_7, k5_8⟩ := HK.out.below HB5.out (by have := HSW.out; omega)
  clear hb5 k4_0 k4_1 k4_2 k4_3 k4_4 k4_5 k4_6 k4_7 k4_8
  go_wp2_with fail
  (with_reducible refine (HS.out _).mono ?_)
  rintro e w_6 ⟨rfl, hb6⟩
  have HB6 : Hid (Below W.heap.size W w_6) := Lib.hid (HB5.out.trans (hb6.mono HB5.out.size))
  obtain ⟨k6_0, k6_1, k6_2, k6_3, k6_4, k6_5, k6_6, k6_7, k6_8⟩ := HK.out.below HB6.out (by have := HSW.out; omega)
  clear hb6 k5_0 k5_1 k5_2 k5_3 k5_4 k5_5 k5_6 k5_7 k5_8
  go_wp2_with fail
  (with_reducible refine (HU.out _).mono ?_)
  rintro e w_7 ⟨rfl, hb7⟩
  have HB7 : Hid (Below W.heap.size W w_7) := Lib.hid (HB6.out.trans (hb7.mono HB6.out.size))
  obtain ⟨k7_0, k7_1, k7_2, k7_3, k7_4, k7_5, k7_6, k7_7, k7_8⟩ := HK.out.below HB7.out (by have := HSW.out; omega)
  clear hb7 k6_0 k6_1 k6_2 k6_3 k6_4 k6_5 k6_6 k6_7 k6_8
  go_wp2_with fail
  (with_reducible refine (HV.out _).mono ?_)
  rintro e w_8 ⟨rfl, hb8⟩
  have HB8 : Hid (Below W.heap.size W w_8) := Lib.hid (HB7.out.trans (hb8.mono HB7.out.size))
  obtain ⟨k8_0, k8_1, k8_2, k8_3, k8_4, k8_5, k8_6, k8_7, k8_8⟩ := HK.out.below HB8.out (by have := HSW.out; omega)
  clear hb8 k7_0 k7_1 k7_2 k7_3 k7_4 k7_5 k7_6 k7_7 k7_8
  go_wp2_with fail
  (with_reducible refine (HW.out _).mono ?_)
  rintro e w_9 ⟨rfl, hb9⟩
  have HB9 : Hid (Below W.heap.size W w_9) := Lib.hid (HB8.out.trans (hb9.mono HB8.out.size))
  obtain ⟨k9_0, k9_1, k9_2, k9_3, k9_4, k9_5, k9_6, k9_7, k9_8⟩ := HK.out.below HB9.out (by have := HSW.out; omega)
  clear hb9 k8_0 k8_1 k8_2 k8_3 k8_4 k8_5 k8_6 k8_7 k8_8
  go_wp2_with fail
  go_ret
  exact ⟨rfl, HBW.out.trans (HB9.out.mono (by have := HSW.out; have := HSZ.out; omega))⟩

set_option maxHeartbeats 8000000 in
theorem parts_f (how a b q r p s u : Int) 
    (CT : ∀ w, Calls Try.prog 8 #[.int .i64 how] w (TypeIs 8 true w))
    (CX : ∀ w, Calls Try.prog 13 #[.agg #[.int .i64 1, .int .i64 8, .bool true, .bool false, .pointer none, .int .i64 0, .int .i64 0, .slice none 0 0, .pointer none], .int .i64 a] w (IntIs .i64 (-9223372036854775808) w))
    (CY : ∀ w, Calls Try.prog 13 #[.agg #[.int .i64 1, .int .i64 8, .bool true, .bool false, .pointer none, .int .i64 0, .int .i64 0, .slice none 0 0, .pointer none], .int .i64 b] w (IntIs .i64 (-1) w))
    (CQ : ∀ w, Calls Try.prog 11 #[.string ⟨#[47]⟩, .agg #[.int .i64 1, .int .i64 8, .bool true, .bool false, .pointer none, .int .i64 0, .int .i64 0, .slice none 0 0, .pointer none], .int .i64 (-9223372036854775808), .int .i64 (-1)] w  (PairIs q false w))
    (CR : ∀ w, Calls Try.prog 11 #[.string ⟨#[37]⟩, .agg #[.int .i64 1, .int .i64 8, .bool true, .bool false, .pointer none, .int .i64 0, .int .i64 0, .slice none 0 0, .pointer none], .int .i64 (-9223372036854775808), .int .i64 (-1)] w  (PairIs r false w))
    (CP : ∀ w, Calls Try.prog 11 #[.string ⟨#[42]⟩, .agg #[.int .i64 1, .int .i64 8, .bool true, .bool false, .pointer none, .int .i64 0, .int .i64 0, .slice none 0 0, .pointer none], .int .i64 q, .int .i64 (-1)] w  (PairIs p true w))
    (CS : ∀ w, Calls Try.prog 11 #[.string ⟨#[43]⟩, .agg #[.int .i64 1, .int .i64 8, .bool true, .bool false, .pointer none, .int .i64 0, .int .i64 0, .slice none 0 0, .pointer none], .int .i64 p, .int .i64 r] w  (PairIs s true w))
    (CU : ∀ w, Calls Try.prog 11 #[.string ⟨#[43]⟩, .agg #[.int .i64 1, .int .i64 8, .bool true, .bool false, .pointer none, .int .i64 0, .int .i64 0, .slice none 0 0, .pointer none], .int .i64 (-9223372036854775808), .int .i64 (-1)] w  (PairIs u true w))
    (CV : ∀ w, Calls Try.prog 11 #[.string ⟨#[43]⟩, .agg #[.int .i64 1, .int .i64 8, .bool true, .bool false, .pointer none, .int .i64 0, .int .i64 0, .slice none 0 0, .pointer none], .int .i64 (-1), .int .i64 (-9223372036854775808)] w  (PairIs u true w))
    (CW : ∀ w, Calls Try.prog 11 #[.string ⟨#[45]⟩, .agg #[.int .i64 1, .int .i64 8, .bool true, .bool false, .pointer none, .int .i64 0, .int .i64 0, .slice none 0 0, .pointer none], .int .i64 u, .int .i64 (-1)] w  (PairIs (-9223372036854775808) true w))
    (w : World) : Calls Try.prog 5 #[.int .i64 how, .int .i64 a, .int .i64 b] w (BoolIs true w) := by
  have HT := Lib.hid CT
  have HX := Lib.hid CX
  have HY := Lib.hid CY
  have HQ := Lib.hid CQ
  have HR := Lib.hid CR
  have HP := Lib.hid CP
  have HS := Lib.hid CS
  have HU := Lib.hid CU
  have HV := Lib.hid CV
  have HW := Lib.hid CW
  clear CT CX CY CQ CR CP CS CU CV CW
  go_enter Try.func5, Try.ntmps5
  go_wp2_with fail
  refine (fit_law _).mono ?_
  rintro e w1 ⟨rfl, hb1⟩
  go_wp2_with fail
  refine (HT.out _).mono ?_
  rintro e w2 ⟨rfl, hb2⟩
  rw [show tV 8 true = .agg #[.int .i64 1, .int .i64 8, .bool true, .bool false, .pointer none, .int .i64 0, .int .i64 0, .slice none 0 0, .pointer none] from rfl]
  have HBA := Lib.hid (hb1.trans (hb2.mono hb1.size))
  clear hb1 hb2
  go_wp2_with fail
  generalize hW : w2.alloc _ = W
  have hbW : Below w.heap.size w W := by rw [← hW]; exact HBA.out.alloc HBA.out.size _
  have hsW : W.heap.size = w2.heap.size + 1 := by rw [← hW]; simp
  have HK : Hid (T9 W w2.heap.size 8 true) := Lib.hid (by rw [← hW]; exact t9_alloc w2 8 true _)
  have HBW := Lib.hid hbW
  have HSW := Lib.hid hsW
  have HSZ := Lib.hid (HBA.out.size)
  obtain ⟨k0_0, k0_1, k0_2, k0_3, k0_4, k0_5, k0_6, k0_7, k0_8⟩ := HK.out
  rw [show ((8 : Nat) : Int) = 8 from rfl] at k0_1
  clear hW hbW hsW HBA
  go_region_held3 (fun w' => w'.cell? ⟨w2.heap.size, 0, none⟩ = some (.int .i64 1) ∧ w'.cell? ⟨w2.heap.size, 1, none⟩ = some (.int .i64 8) ∧ w'.cell? ⟨w2.heap.size, 2, none⟩ = some (.bool true) ∧ w'.cell? ⟨w2.heap.size, 3, none⟩ = some (.bool false) ∧ w'.cell? ⟨w2.heap.size, 4, none⟩ = some (.pointer none) ∧ w'.cell? ⟨w2.heap.size, 5, none⟩ = some (.int .i64 0) ∧ w'.cell? ⟨w2.heap.size, 6, none⟩ = some (.int .i64 0) ∧ w'.cell? ⟨w2.heap.size, 7, none⟩ = some (.slice none 0 0) ∧ w'.cell? ⟨w2.heap.size, 8, none⟩ = some (.pointer none)) (go_keep)
    (first
      | (go_at_call 13
         (with_reducible refine (HY.out _).mono ?_)
         rintro e w_2 ⟨rfl, hb2⟩
         have HB2 : Hid (Below W.heap.size W w_2) := Lib.hid (HB1.out.trans (hb2.mono HB1.out.size))
         obtain ⟨k2_0, k2_1, k2_2, k2_3, k2_4, k2_5, k2_6, k2_7, k2_8⟩ := HK.out.below HB2.out (by have := HSW.out; omega); rw [show ((8 : Nat) : Int) = 8 from rfl] at k2_1
         clear hb2 k1_0 k1_1 k1_2 k1_3 k1_4 k1_5 k1_6 k1_7 k1_8)
      | (go_at_call 13
         (with_reducible refine (HX.out _).mono ?_)
         rintro e w_1 ⟨rfl, hb1⟩
         have HB1 : Hid (Below W.heap.size W w_1) := Lib.hid ((Below.refl W.heap.size W).drew.trans hb1)
         obtain ⟨k1_0, k1_1, k1_2, k1_3, k1_4, k1_5, k1_6, k1_7, k1_8⟩ := HK.out.below HB1.out (by have := HSW.out; omega); rw [show ((8 : Nat) : Int) = 8 from rfl] at k1_1
         clear hb1 k0_0 k0_1 k0_2 k0_3 k0_4 k0_5 k0_6 k0_7 k0_8))
  go_wp2_with fail
  (with_reducible refine (HQ.out _).mono ?_)
  rintro e w_3 ⟨rfl, hb3⟩
  have HB3 : Hid (Below W.heap.size W w_3) := Lib.hid (HB2.out.trans (hb3.mono HB2.out.size))
  obtain ⟨k3_0, k3_1, k3_2, k3_3, k3_4, k3_5, k3_6, k3_7, k3_8⟩ := HK.out.below HB3.out (by have := HSW.out; omega); rw [show ((8 : Nat) : Int) = 8 from rfl] at k3_1
  clear hb3 k2_0 k2_1 k2_2 k2_3 k2_4 k2_5 k2_6 k2_7 k2_8
  go_wp2_with fail
  (with_reducible refine (HR.out _).mono ?_)
  rintro e w_4 ⟨rfl, hb4⟩
  have HB4 : Hid (Below W.heap.size W w_4) := Lib.hid (HB3.out.trans (hb4.mono HB3.out.size))
  obtain ⟨k4_0, k4_1, k4_2, k4_3, k4_4, k4_5, k4_6, k4_7, k4_8⟩ := HK.out.below HB4.out (by have := HSW.out; omega); rw [show ((8 : Nat) : Int) = 8 from rfl] at k4_1
  clear hb4 k3_0 k3_1 k3_2 k3_3 k3_4 k3_5 k3_6 k3_7 k3_8
  go_wp2_with fail
  (with_reducible refine (HP.out _).mono ?_)
  rintro e w_5 ⟨rfl, hb5⟩
  have HB5 : Hid (Below W.heap.size W w_5) := Lib.hid (HB4.out.trans (hb5.mono HB4.out.size))
  obtain ⟨k5_0, k5_1, k5_2, k5_3, k5_4, k5_5, k5_6, k5_7, k5_8⟩ := HK.out.below HB5.out (by have := HSW.out; omega); rw [show ((8 : Nat) : Int) = 8 from rfl] at k5_1
  clear hb5 k4_0 k4_1 k4_2 k4_3 k4_4 k4_5 k4_6 k4_7 k4_8
  go_wp2_with fail
  (with_reducible refine (HS.out _).mono ?_)
  rintro e w_6 ⟨rfl, hb6⟩
  have HB6 : Hid (Below W.heap.size W w_6) := Lib.hid (HB5.out.trans (hb6.mono HB5.out.size))
  obtain ⟨k6_0, k6_1, k6_2, k6_3, k6_4, k6_5, k6_6, k6_7, k6_8⟩ := HK.out.below HB6.out (by have := HSW.out; omega); rw [show ((8 : Nat) : Int) = 8 from rfl] at k6_1
  clear hb6 k5_0 k5_1 k5_2 k5_3 k5_4 k5_5 k5_6 k5_7 k5_8
  go_wp2_with fail
  (with_reducible refine (HU.out _).mono ?_)
  rintro e w_7 ⟨rfl, hb7⟩
  have HB7 : Hid (Below W.heap.size W w_7) := Lib.hid (HB6.out.trans (hb7.mono HB6.out.size))
  obtain ⟨k7_0, k7_1, k7_2, k7_3, k7_4, k7_5, k7_6, k7_7, k7_8⟩ := HK.out.below HB7.out (by have := HSW.out; omega); rw [show ((8 : Nat) : Int) = 8 from rfl] at k7_1
  clear hb7 k6_0 k6_1 k6_2 k6_3 k6_4 k6_5 k6_6 k6_7 k6_8
  go_wp2_with fail
  (with_reducible refine (HV.out _).mono ?_)
  rintro e w_8 ⟨rfl, hb8⟩
  have HB8 : Hid (Below W.heap.size W w_8) := Lib.hid (HB7.out.trans (hb8.mono HB7.out.size))
  obtain ⟨k8_0, k8_1, k8_2, k8_3, k8_4, k8_5, k8_6, k8_7, k8_8⟩ := HK.out.below HB8.out (by have := HSW.out; omega); rw [show ((8 : Nat) : Int) = 8 from rfl] at k8_1
  clear hb8 k7_0 k7_1 k7_2 k7_3 k7_4 k7_5 k7_6 k7_7 k7_8
  go_wp2_with fail
  (with_reducible refine (HW.out _).mono ?_)
  rintro e w_9 ⟨rfl, hb9⟩
  have HB9 : Hid (Below W.heap.size W w_9) := Lib.hid (HB8.out.trans (hb9.mono HB8.out.size))
  obtain ⟨k9_0, k9_1, k9_2, k9_3, k9_4, k9_5, k9_6, k9_7, k9_8⟩ := HK.out.below HB9.out (by have := HSW.out; omega); rw [show ((8 : Nat) : Int) = 8 from rfl] at k9_1
  clear hb9 k8_0 k8_1 k8_2 k8_3 k8_4 k8_5 k8_6 k8_7 k8_8
  go_wp2_with fail
  go_ret
  exact ⟨rfl, HBW.out.trans (HB9.out.mono (by have := HSW.out; have := HSZ.out; omega))⟩

end Go.Proofs.Ytbflijjkdndefaa
