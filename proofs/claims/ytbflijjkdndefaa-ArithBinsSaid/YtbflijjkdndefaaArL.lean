import Derived.Test.YtbflijjkdndefaaArJ
import Derived.Test.YtbflijjkdndefaaArK
namespace Go.Proofs.Ytbflijjkdndefaa
open Go Go.RowKit
set_option linter.unusedVariables false
set_option linter.unusedSimpArgs false

set_option maxHeartbeats 8000000 in
theorem fits_1 (sz : Nat) (sg : Bool) (how h2 a b x y : Int) (V : Nat → Int)
    (CT : ∀ w, Calls Try.prog 8 #[.int .i64 how] w (TypeIs sz sg w))
    (CX : ∀ w, Calls Try.prog 13 #[.agg #[.int .i64 1, .int .i64 sz, .bool sg, .bool false, .pointer none, .int .i64 0, .int .i64 0, .slice none 0 0, .pointer none], .int .i64 a] w (IntIs .i64 x w))
    (CY : ∀ w, Calls Try.prog 13 #[.agg #[.int .i64 1, .int .i64 sz, .bool sg, .bool false, .pointer none, .int .i64 0, .int .i64 0, .slice none 0 0, .pointer none], .int .i64 b] w (IntIs .i64 y w))
    (CXX : ∀ w, Calls Try.prog 13 #[.agg #[.int .i64 1, .int .i64 sz, .bool sg, .bool false, .pointer none, .int .i64 0, .int .i64 0, .slice none 0 0, .pointer none], .int .i64 x] w (IntIs .i64 x w))
    (CRX : ∀ w, Calls Try.prog 10 #[.agg #[.int .i64 1, .int .i64 sz, .bool sg, .bool false, .pointer none, .int .i64 0, .int .i64 0, .slice none 0 0, .pointer none], .int .i64 a] w (IntIs .i64 x w))
    (CC : ∀ k, k < 7 → ∀ w, Calls Try.prog 14 #[.string (cmpName k), .agg #[.int .i64 1, .int .i64 sz, .bool sg, .bool false, .pointer none, .int .i64 0, .int .i64 0, .slice none 0 0, .pointer none], .int .i64 x, .int .i64 y] w (IntIs .i64 (V k) w))
    (CR : ∀ k, k < 7 → ∀ w, Calls Try.prog 15 #[.string (cmpName k), .agg #[.int .i64 1, .int .i64 sz, .bool sg, .bool false, .pointer none, .int .i64 0, .int .i64 0, .slice none 0 0, .pointer none], .int .i64 x, .int .i64 y] w (IntIs .i64 (V k) w))
    (C2 : ∀ w, Calls Try.prog 14 #[.string ⟨#[60]⟩, .agg #[.int .i64 1, .int .i64 sz, .bool sg, .bool false, .pointer none, .int .i64 0, .int .i64 0, .slice none 0 0, .pointer none], .int .i64 x, .int .i64 y] w  (IntIs .i64 1 w))
    (C5 : ∀ w, Calls Try.prog 14 #[.string ⟨#[62, 61]⟩, .agg #[.int .i64 1, .int .i64 sz, .bool sg, .bool false, .pointer none, .int .i64 0, .int .i64 0, .slice none 0 0, .pointer none], .int .i64 x, .int .i64 y] w  (IntIs .i64 0 w))
    (C3 : ∀ w, Calls Try.prog 14 #[.string ⟨#[62]⟩, .agg #[.int .i64 1, .int .i64 sz, .bool sg, .bool false, .pointer none, .int .i64 0, .int .i64 0, .slice none 0 0, .pointer none], .int .i64 y, .int .i64 x] w  (IntIs .i64 1 w))
    (w : World) : Calls Try.prog 4 #[.agg #[.int .i64 how, .int .i64 h2], .int .i64 a, .int .i64 b] w (BoolIs true w) := by
  have HT := Lib.hid CT
  have HX := Lib.hid CX
  have HY := Lib.hid CY
  have HXX := Lib.hid CXX
  have HRX := Lib.hid CRX
  have HC := Lib.hid CC
  have HR := Lib.hid CR
  have H2 := Lib.hid C2
  have H5 := Lib.hid C5
  have H3 := Lib.hid C3
  clear CT CX CY CXX CRX CC CR C2 C5 C3
  go_enter Try.func4, Try.ntmps4
  go_wp2_with fail
  refine (fit_law _).mono ?_
  rintro e w1 ⟨rfl, hb1⟩
  have hk0 : w1.cell? ⟨w.heap.size, 0, none⟩ = some (.int .i64 how) := by rw [hb1.cell (by simp)]; simp
  have hw1 : w.heap.size < w1.heap.size := by have := hb1.size; simp at this; omega
  have HB0 := Lib.hid (((Below.refl _ _).alloc (Nat.le_refl _) _).trans (hb1.mono (by simp)))
  clear hb1
  go_wp2_with fail
  refine (HT.out _).mono ?_
  rintro e w2 ⟨rfl, hb2⟩
  rw [show tV sz sg = .agg #[.int .i64 1, .int .i64 sz, .bool sg, .bool false, .pointer none, .int .i64 0, .int .i64 0, .slice none 0 0, .pointer none] from rfl]
  have HBA := Lib.hid (HB0.out.trans (hb2.mono HB0.out.size))
  clear hb2 hk0 HB0
  go_wp2_with fail
  generalize hW : w2.alloc _ = W
  have hbW : Below w.heap.size w W := by rw [← hW]; exact HBA.out.alloc HBA.out.size _
  have hsW : W.heap.size = w2.heap.size + 1 := by rw [← hW]; simp
  have HK : Hid (T9 W w2.heap.size sz sg) := Lib.hid (by rw [← hW]; exact t9_alloc w2 sz sg _)
  have HBW := Lib.hid hbW
  have HSW := Lib.hid hsW
  have HSZ := Lib.hid (HBA.out.size)
  obtain ⟨k0_0, k0_1, k0_2, k0_3, k0_4, k0_5, k0_6, k0_7, k0_8⟩ := HK.out
  clear hW hbW hsW HBA
  go_region_held3 (fun w' => w'.cell? ⟨w2.heap.size, 0, none⟩ = some (.int .i64 1) ∧ w'.cell? ⟨w2.heap.size, 1, none⟩ = some (.int .i64 sz) ∧ w'.cell? ⟨w2.heap.size, 2, none⟩ = some (.bool sg) ∧ w'.cell? ⟨w2.heap.size, 3, none⟩ = some (.bool false) ∧ w'.cell? ⟨w2.heap.size, 4, none⟩ = some (.pointer none) ∧ w'.cell? ⟨w2.heap.size, 5, none⟩ = some (.int .i64 0) ∧ w'.cell? ⟨w2.heap.size, 6, none⟩ = some (.int .i64 0) ∧ w'.cell? ⟨w2.heap.size, 7, none⟩ = some (.slice none 0 0) ∧ w'.cell? ⟨w2.heap.size, 8, none⟩ = some (.pointer none)) (go_keep)
    (first
      | (go_at_call 13
         (with_reducible refine (HY.out _).mono ?_)
         rintro e w_2 ⟨rfl, hb2⟩
         have HB2 : Hid (Below W.heap.size W w_2) := Lib.hid (HB1.out.trans (hb2.mono HB1.out.size))
         obtain ⟨k2_0, k2_1, k2_2, k2_3, k2_4, k2_5, k2_6, k2_7, k2_8⟩ := HK.out.below HB2.out (by have := HSW.out; omega)
         clear hb2 k1_0 k1_1 k1_2 k1_3 k1_4 k1_5 k1_6 k1_7 k1_8)
      | (go_at_call 13
         (with_reducible refine (HX.out _).mono ?_)
         rintro e w_1 ⟨rfl, hb1⟩
         have HB1 : Hid (Below W.heap.size W w_1) := Lib.hid ((Below.refl W.heap.size W).drew.trans hb1)
         obtain ⟨k1_0, k1_1, k1_2, k1_3, k1_4, k1_5, k1_6, k1_7, k1_8⟩ := HK.out.below HB1.out (by have := HSW.out; omega)
         clear hb1 k0_0 k0_1 k0_2 k0_3 k0_4 k0_5 k0_6 k0_7 k0_8))
  go_wp2_with fail
  (with_reducible refine (HRX.out _).mono ?_)
  rintro e w_3 ⟨rfl, hb3⟩
  have HB3 : Hid (Below W.heap.size W w_3) := Lib.hid (HB2.out.trans (hb3.mono HB2.out.size))
  obtain ⟨k3_0, k3_1, k3_2, k3_3, k3_4, k3_5, k3_6, k3_7, k3_8⟩ := HK.out.below HB3.out (by have := HSW.out; omega)
  clear hb3 k2_0 k2_1 k2_2 k2_3 k2_4 k2_5 k2_6 k2_7 k2_8
  go_wp2_with fail
  (with_reducible refine (HXX.out _).mono ?_)
  rintro e w_4 ⟨rfl, hb4⟩
  have HB4 : Hid (Below W.heap.size W w_4) := Lib.hid (HB3.out.trans (hb4.mono HB3.out.size))
  obtain ⟨k4_0, k4_1, k4_2, k4_3, k4_4, k4_5, k4_6, k4_7, k4_8⟩ := HK.out.below HB4.out (by have := HSW.out; omega)
  clear hb4 k3_0 k3_1 k3_2 k3_3 k3_4 k3_5 k3_6 k3_7 k3_8
  go_wp2_with fail
  generalize hV : w_4.alloc _ = W2
  have hz4 : w_4.heap.size < W2.heap.size := by rw [← hV]; simp
  have hbV : Below W.heap.size W W2 := by rw [← hV]; exact HB4.out.alloc HB4.out.size _
  have HST : Hid (∀ k, k < 7 → W2.cell? ⟨w_4.heap.size, k, none⟩ = some (.string (cmpName k))) := Lib.hid (by
    intro k hk
    rw [← hV]
    have h7 : k = 0 ∨ k = 1 ∨ k = 2 ∨ k = 3 ∨ k = 4 ∨ k = 5 ∨ k = 6 := by omega
    rcases h7 with rfl | rfl | rfl | rfl | rfl | rfl | rfl <;> simp [cmpName])
  have HK2 : Hid (T9 W2 w2.heap.size sz sg) := Lib.hid (HK.out.below hbV (by have := HSW.out; omega))
  have HBV := Lib.hid (HBW.out.trans (hbV.mono (by have := HSW.out; have := HSZ.out; omega)))
  have HZ2 : Hid (w2.heap.size < W2.heap.size ∧ w_4.heap.size < W2.heap.size) := Lib.hid (by have := hbV.size; have := HSW.out; omega)
  clear hV hz4 hbV k4_0 k4_1 k4_2 k4_3 k4_4 k4_5 k4_6 k4_7 k4_8
  go_loopw [37] (fun vi wr => ∃ k : Nat, vi = .int .i64 k ∧ k ≤ 7 ∧ Below W2.heap.size W2 wr) (fun vi _ => 7 - (intOf vi).toNat)
  case atStart => exact ⟨0, rfl, by omega, Below.refl _ _⟩
  case round =>
    obtain ⟨k, rfl, hk, hb⟩ := hrel
    have HBR := Lib.hid hb
    have HKR : Hid (T9 wr w2.heap.size sz sg) := Lib.hid (HK2.out.below hb HZ2.out.1)
    by_cases hlt : k < 7
    · have hst : wr.cell? ⟨w_4.heap.size, k, none⟩ = some (.string (cmpName k)) := by rw [hb.cell (by exact HZ2.out.2)]; exact HST.out k hlt
      have CC := Lib.hid (HC.out k hlt)
      have CR := Lib.hid (HR.out k hlt)
      have hltR : Hid (w2.heap.size < wr.heap.size) := Lib.hid (by have := hb.size; have := HZ2.out.1; omega)
      obtain ⟨k10_0, k10_1, k10_2, k10_3, k10_4, k10_5, k10_6, k10_7, k10_8⟩ := HKR.out
      clear hb
      go_wp2_with fail
      go_region_held3 (fun w' => w'.cell? ⟨w2.heap.size, 0, none⟩ = some (.int .i64 1) ∧ w'.cell? ⟨w2.heap.size, 1, none⟩ = some (.int .i64 sz) ∧ w'.cell? ⟨w2.heap.size, 2, none⟩ = some (.bool sg) ∧ w'.cell? ⟨w2.heap.size, 3, none⟩ = some (.bool false) ∧ w'.cell? ⟨w2.heap.size, 4, none⟩ = some (.pointer none) ∧ w'.cell? ⟨w2.heap.size, 5, none⟩ = some (.int .i64 0) ∧ w'.cell? ⟨w2.heap.size, 6, none⟩ = some (.int .i64 0) ∧ w'.cell? ⟨w2.heap.size, 7, none⟩ = some (.slice none 0 0) ∧ w'.cell? ⟨w2.heap.size, 8, none⟩ = some (.pointer none)) (go_keep)
        (first
          | (go_at_call 15
             (with_reducible refine (CR.out _).mono ?_)
             rintro e w_12 ⟨rfl, hb12⟩
             have HB12 : Hid (Below wr.heap.size wr w_12) := Lib.hid (HB11.out.trans (hb12.mono HB11.out.size))
             obtain ⟨k12_0, k12_1, k12_2, k12_3, k12_4, k12_5, k12_6, k12_7, k12_8⟩ := HKR.out.below HB12.out (by exact hltR.out)
             clear hb12 k11_0 k11_1 k11_2 k11_3 k11_4 k11_5 k11_6 k11_7 k11_8)
          | (go_at_call 14
             (with_reducible refine (CC.out _).mono ?_)
             rintro e w_11 ⟨rfl, hb11⟩
             have HB11 : Hid (Below wr.heap.size wr w_11) := Lib.hid ((Below.refl wr.heap.size wr).drew.trans hb11)
             obtain ⟨k11_0, k11_1, k11_2, k11_3, k11_4, k11_5, k11_6, k11_7, k11_8⟩ := HKR.out.below HB11.out (by exact hltR.out)
             clear hb11 k10_0 k10_1 k10_2 k10_3 k10_4 k10_5 k10_6 k10_7 k10_8))
      go_wp2_with fail
      go_roundw
      case rel => exact ⟨k + 1, by go_num, by omega, HBR.out.trans (HB12.out.mono HBR.out.size)⟩
      case measure => simp [intOf]; omega
    · have h7 : k = 7 := by omega
      subst h7
      have hltR : Hid (w2.heap.size < wr.heap.size) := Lib.hid (by have := hb.size; have := HZ2.out.1; omega)
      obtain ⟨k10_0, k10_1, k10_2, k10_3, k10_4, k10_5, k10_6, k10_7, k10_8⟩ := HKR.out
      clear hb
      go_wp2_with fail
      go_region_held3 (fun w' => w'.cell? ⟨w2.heap.size, 0, none⟩ = some (.int .i64 1) ∧ w'.cell? ⟨w2.heap.size, 1, none⟩ = some (.int .i64 sz) ∧ w'.cell? ⟨w2.heap.size, 2, none⟩ = some (.bool sg) ∧ w'.cell? ⟨w2.heap.size, 3, none⟩ = some (.bool false) ∧ w'.cell? ⟨w2.heap.size, 4, none⟩ = some (.pointer none) ∧ w'.cell? ⟨w2.heap.size, 5, none⟩ = some (.int .i64 0) ∧ w'.cell? ⟨w2.heap.size, 6, none⟩ = some (.int .i64 0) ∧ w'.cell? ⟨w2.heap.size, 7, none⟩ = some (.slice none 0 0) ∧ w'.cell? ⟨w2.heap.size, 8, none⟩ = some (.pointer none)) (go_keep)
        (first
          | (go_at_call 14
             (with_reducible refine (H3.out _).mono ?_)
             rintro e w_14 ⟨rfl, hb14⟩
             have HB14 : Hid (Below wr.heap.size wr w_14) := Lib.hid (HB13.out.trans (hb14.mono HB13.out.size))
             obtain ⟨k14_0, k14_1, k14_2, k14_3, k14_4, k14_5, k14_6, k14_7, k14_8⟩ := HKR.out.below HB14.out (by exact hltR.out)
             clear hb14 k13_0 k13_1 k13_2 k13_3 k13_4 k13_5 k13_6 k13_7 k13_8)
          | (go_at_call 14
             (with_reducible refine (H2.out _).mono ?_)
             rintro e w_13 ⟨rfl, hb13⟩
             have HB13 : Hid (Below wr.heap.size wr w_13) := Lib.hid (HB12.out.trans (hb13.mono HB12.out.size))
             obtain ⟨k13_0, k13_1, k13_2, k13_3, k13_4, k13_5, k13_6, k13_7, k13_8⟩ := HKR.out.below HB13.out (by exact hltR.out)
             clear hb13 k12_0 k12_1 k12_2 k12_3 k12_4 k12_5 k12_6 k12_7 k12_8 HB11)
          | (go_at_call 14
             (with_reducible refine (H5.out _).mono ?_)
             rintro e w_12 ⟨rfl, hb12⟩
             have HB12 : Hid (Below wr.heap.size wr w_12) := Lib.hid (HB11.out.trans (hb12.mono HB11.out.size))
             obtain ⟨k12_0, k12_1, k12_2, k12_3, k12_4, k12_5, k12_6, k12_7, k12_8⟩ := HKR.out.below HB12.out (by exact hltR.out)
             clear hb12 k11_0 k11_1 k11_2 k11_3 k11_4 k11_5 k11_6 k11_7 k11_8)
          | (go_at_call 14
             (with_reducible refine (H2.out _).mono ?_)
             rintro e w_11 ⟨rfl, hb11⟩
             have HB11 : Hid (Below wr.heap.size wr w_11) := Lib.hid ((Below.refl wr.heap.size wr).drew.trans hb11)
             obtain ⟨k11_0, k11_1, k11_2, k11_3, k11_4, k11_5, k11_6, k11_7, k11_8⟩ := HKR.out.below HB11.out (by exact hltR.out)
             clear hb11 k10_0 k10_1 k10_2 k10_3 k10_4 k10_5 k10_6 k10_7 k10_8))
      go_wp2_with fail
      go_ret
      exact ⟨rfl, HBV.out.trans ((HBR.out.trans (HB14.out.mono HBR.out.size)).mono (by have := HSW.out; have := HSZ.out; have := HZ2.out.1; omega))⟩


set_option maxHeartbeats 8000000 in
theorem fits_0 (sz : Nat) (sg : Bool) (how h2 a b x y : Int) (V : Nat → Int)
    (CT : ∀ w, Calls Try.prog 8 #[.int .i64 how] w (TypeIs sz sg w))
    (CX : ∀ w, Calls Try.prog 13 #[.agg #[.int .i64 1, .int .i64 sz, .bool sg, .bool false, .pointer none, .int .i64 0, .int .i64 0, .slice none 0 0, .pointer none], .int .i64 a] w (IntIs .i64 x w))
    (CY : ∀ w, Calls Try.prog 13 #[.agg #[.int .i64 1, .int .i64 sz, .bool sg, .bool false, .pointer none, .int .i64 0, .int .i64 0, .slice none 0 0, .pointer none], .int .i64 b] w (IntIs .i64 y w))
    (CXX : ∀ w, Calls Try.prog 13 #[.agg #[.int .i64 1, .int .i64 sz, .bool sg, .bool false, .pointer none, .int .i64 0, .int .i64 0, .slice none 0 0, .pointer none], .int .i64 x] w (IntIs .i64 x w))
    (CRX : ∀ w, Calls Try.prog 10 #[.agg #[.int .i64 1, .int .i64 sz, .bool sg, .bool false, .pointer none, .int .i64 0, .int .i64 0, .slice none 0 0, .pointer none], .int .i64 a] w (IntIs .i64 x w))
    (CC : ∀ k, k < 7 → ∀ w, Calls Try.prog 14 #[.string (cmpName k), .agg #[.int .i64 1, .int .i64 sz, .bool sg, .bool false, .pointer none, .int .i64 0, .int .i64 0, .slice none 0 0, .pointer none], .int .i64 x, .int .i64 y] w (IntIs .i64 (V k) w))
    (CR : ∀ k, k < 7 → ∀ w, Calls Try.prog 15 #[.string (cmpName k), .agg #[.int .i64 1, .int .i64 sz, .bool sg, .bool false, .pointer none, .int .i64 0, .int .i64 0, .slice none 0 0, .pointer none], .int .i64 x, .int .i64 y] w (IntIs .i64 (V k) w))
    (C2 : ∀ w, Calls Try.prog 14 #[.string ⟨#[60]⟩, .agg #[.int .i64 1, .int .i64 sz, .bool sg, .bool false, .pointer none, .int .i64 0, .int .i64 0, .slice none 0 0, .pointer none], .int .i64 x, .int .i64 y] w  (IntIs .i64 0 w))
    (C5 : ∀ w, Calls Try.prog 14 #[.string ⟨#[62, 61]⟩, .agg #[.int .i64 1, .int .i64 sz, .bool sg, .bool false, .pointer none, .int .i64 0, .int .i64 0, .slice none 0 0, .pointer none], .int .i64 x, .int .i64 y] w  (IntIs .i64 1 w))
    (C3 : ∀ w, Calls Try.prog 14 #[.string ⟨#[62]⟩, .agg #[.int .i64 1, .int .i64 sz, .bool sg, .bool false, .pointer none, .int .i64 0, .int .i64 0, .slice none 0 0, .pointer none], .int .i64 y, .int .i64 x] w  (IntIs .i64 0 w))
    (w : World) : Calls Try.prog 4 #[.agg #[.int .i64 how, .int .i64 h2], .int .i64 a, .int .i64 b] w (BoolIs true w) := by
  have HT := Lib.hid CT
  have HX := Lib.hid CX
  have HY := Lib.hid CY
  have HXX := Lib.hid CXX
  have HRX := Lib.hid CRX
  have HC := Lib.hid CC
  have HR := Lib.hid CR
  have H2 := Lib.hid C2
  have H5 := Lib.hid C5
  have H3 := Lib.hid C3
  clear CT CX CY CXX CRX CC CR C2 C5 C3
  go_enter Try.func4, Try.ntmps4
  go_wp2_with fail
  refine (fit_law _).mono ?_
  rintro e w1 ⟨rfl, hb1⟩
  have hk0 : w1.cell? ⟨w.heap.size, 0, none⟩ = some (.int .i64 how) := by rw [hb1.cell (by simp)]; simp
  have hw1 : w.heap.size < w1.heap.size := by have := hb1.size; simp at this; omega
  have HB0 := Lib.hid (((Below.refl _ _).alloc (Nat.le_refl _) _).trans (hb1.mono (by simp)))
  clear hb1
  go_wp2_with fail
  refine (HT.out _).mono ?_
  rintro e w2 ⟨rfl, hb2⟩
  rw [show tV sz sg = .agg #[.int .i64 1, .int .i64 sz, .bool sg, .bool false, .pointer none, .int .i64 0, .int .i64 0, .slice none 0 0, .pointer none] from rfl]
  have HBA := Lib.hid (HB0.out.trans (hb2.mono HB0.out.size))
  clear hb2 hk0 HB0
  go_wp2_with fail
  generalize hW : w2.alloc _ = W
  have hbW : Below w.heap.size w W := by rw [← hW]; exact HBA.out.alloc HBA.out.size _
  have hsW : W.heap.size = w2.heap.size + 1 := by rw [← hW]; simp
  have HK : Hid (T9 W w2.heap.size sz sg) := Lib.hid (by rw [← hW]; exact t9_alloc w2 sz sg _)
  have HBW := Lib.hid hbW
  have HSW := Lib.hid hsW
  have HSZ := Lib.hid (HBA.out.size)
  obtain ⟨k0_0, k0_1, k0_2, k0_3, k0_4, k0_5, k0_6, k0_7, k0_8⟩ := HK.out
  clear hW hbW hsW HBA
  go_region_held3 (fun w' => w'.cell? ⟨w2.heap.size, 0, none⟩ = some (.int .i64 1) ∧ w'.cell? ⟨w2.heap.size, 1, none⟩ = some (.int .i64 sz) ∧ w'.cell? ⟨w2.heap.size, 2, none⟩ = some (.bool sg) ∧ w'.cell? ⟨w2.heap.size, 3, none⟩ = some (.bool false) ∧ w'.cell? ⟨w2.heap.size, 4, none⟩ = some (.pointer none) ∧ w'.cell? ⟨w2.heap.size, 5, none⟩ = some (.int .i64 0) ∧ w'.cell? ⟨w2.heap.size, 6, none⟩ = some (.int .i64 0) ∧ w'.cell? ⟨w2.heap.size, 7, none⟩ = some (.slice none 0 0) ∧ w'.cell? ⟨w2.heap.size, 8, none⟩ = some (.pointer none)) (go_keep)
    (first
      | (go_at_call 13
         (with_reducible refine (HY.out _).mono ?_)
         rintro e w_2 ⟨rfl, hb2⟩
         have HB2 : Hid (Below W.heap.size W w_2) := Lib.hid (HB1.out.trans (hb2.mono HB1.out.size))
         obtain ⟨k2_0, k2_1, k2_2, k2_3, k2_4, k2_5, k2_6, k2_7, k2_8⟩ := HK.out.below HB2.out (by have := HSW.out; omega)
         clear hb2 k1_0 k1_1 k1_2 k1_3 k1_4 k1_5 k1_6 k1_7 k1_8)
      | (go_at_call 13
         (with_reducible refine (HX.out _).mono ?_)
         rintro e w_1 ⟨rfl, hb1⟩
         have HB1 : Hid (Below W.heap.size W w_1) := Lib.hid ((Below.refl W.heap.size W).drew.trans hb1)
         obtain ⟨k1_0, k1_1, k1_2, k1_3, k1_4, k1_5, k1_6, k1_7, k1_8⟩ := HK.out.below HB1.out (by have := HSW.out; omega)
         clear hb1 k0_0 k0_1 k0_2 k0_3 k0_4 k0_5 k0_6 k0_7 k0_8))
  go_wp2_with fail
  (with_reducible refine (HRX.out _).mono ?_)
  rintro e w_3 ⟨rfl, hb3⟩
  have HB3 : Hid (Below W.heap.size W w_3) := Lib.hid (HB2.out.trans (hb3.mono HB2.out.size))
  obtain ⟨k3_0, k3_1, k3_2, k3_3, k3_4, k3_5, k3_6, k3_7, k3_8⟩ := HK.out.below HB3.out (by have := HSW.out; omega)
  clear hb3 k2_0 k2_1 k2_2 k2_3 k2_4 k2_5 k2_6 k2_7 k2_8
  go_wp2_with fail
  (with_reducible refine (HXX.out _).mono ?_)
  rintro e w_4 ⟨rfl, hb4⟩
  have HB4 : Hid (Below W.heap.size W w_4) := Lib.hid (HB3.out.trans (hb4.mono HB3.out.size))
  obtain ⟨k4_0, k4_1, k4_2, k4_3, k4_4, k4_5, k4_6, k4_7, k4_8⟩ := HK.out.below HB4.out (by have := HSW.out; omega)
  clear hb4 k3_0 k3_1 k3_2 k3_3 k3_4 k3_5 k3_6 k3_7 k3_8
  go_wp2_with fail
  generalize hV : w_4.alloc _ = W2
  have hz4 : w_4.heap.size < W2.heap.size := by rw [← hV]; simp
  have hbV : Below W.heap.size W W2 := by rw [← hV]; exact HB4.out.alloc HB4.out.size _
  have HST : Hid (∀ k, k < 7 → W2.cell? ⟨w_4.heap.size, k, none⟩ = some (.string (cmpName k))) := Lib.hid (by
    intro k hk
    rw [← hV]
    have h7 : k = 0 ∨ k = 1 ∨ k = 2 ∨ k = 3 ∨ k = 4 ∨ k = 5 ∨ k = 6 := by omega
    rcases h7 with rfl | rfl | rfl | rfl | rfl | rfl | rfl <;> simp [cmpName])
  have HK2 : Hid (T9 W2 w2.heap.size sz sg) := Lib.hid (HK.out.below hbV (by have := HSW.out; omega))
  have HBV := Lib.hid (HBW.out.trans (hbV.mono (by have := HSW.out; have := HSZ.out; omega)))
  have HZ2 : Hid (w2.heap.size < W2.heap.size ∧ w_4.heap.size < W2.heap.size) := Lib.hid (by have := hbV.size; have := HSW.out; omega)
  clear hV hz4 hbV k4_0 k4_1 k4_2 k4_3 k4_4 k4_5 k4_6 k4_7 k4_8
  go_loopw [37] (fun vi wr => ∃ k : Nat, vi = .int .i64 k ∧ k ≤ 7 ∧ Below W2.heap.size W2 wr) (fun vi _ => 7 - (intOf vi).toNat)
  case atStart => exact ⟨0, rfl, by omega, Below.refl _ _⟩
  case round =>
    obtain ⟨k, rfl, hk, hb⟩ := hrel
    have HBR := Lib.hid hb
    have HKR : Hid (T9 wr w2.heap.size sz sg) := Lib.hid (HK2.out.below hb HZ2.out.1)
    by_cases hlt : k < 7
    · have hst : wr.cell? ⟨w_4.heap.size, k, none⟩ = some (.string (cmpName k)) := by rw [hb.cell (by exact HZ2.out.2)]; exact HST.out k hlt
      have CC := Lib.hid (HC.out k hlt)
      have CR := Lib.hid (HR.out k hlt)
      have hltR : Hid (w2.heap.size < wr.heap.size) := Lib.hid (by have := hb.size; have := HZ2.out.1; omega)
      obtain ⟨k10_0, k10_1, k10_2, k10_3, k10_4, k10_5, k10_6, k10_7, k10_8⟩ := HKR.out
      clear hb
      go_wp2_with fail
      go_region_held3 (fun w' => w'.cell? ⟨w2.heap.size, 0, none⟩ = some (.int .i64 1) ∧ w'.cell? ⟨w2.heap.size, 1, none⟩ = some (.int .i64 sz) ∧ w'.cell? ⟨w2.heap.size, 2, none⟩ = some (.bool sg) ∧ w'.cell? ⟨w2.heap.size, 3, none⟩ = some (.bool false) ∧ w'.cell? ⟨w2.heap.size, 4, none⟩ = some (.pointer none) ∧ w'.cell? ⟨w2.heap.size, 5, none⟩ = some (.int .i64 0) ∧ w'.cell? ⟨w2.heap.size, 6, none⟩ = some (.int .i64 0) ∧ w'.cell? ⟨w2.heap.size, 7, none⟩ = some (.slice none 0 0) ∧ w'.cell? ⟨w2.heap.size, 8, none⟩ = some (.pointer none)) (go_keep)
        (first
          | (go_at_call 15
             (with_reducible refine (CR.out _).mono ?_)
             rintro e w_12 ⟨rfl, hb12⟩
             have HB12 : Hid (Below wr.heap.size wr w_12) := Lib.hid (HB11.out.trans (hb12.mono HB11.out.size))
             obtain ⟨k12_0, k12_1, k12_2, k12_3, k12_4, k12_5, k12_6, k12_7, k12_8⟩ := HKR.out.below HB12.out (by exact hltR.out)
             clear hb12 k11_0 k11_1 k11_2 k11_3 k11_4 k11_5 k11_6 k11_7 k11_8)
          | (go_at_call 14
             (with_reducible refine (CC.out _).mono ?_)
             rintro e w_11 ⟨rfl, hb11⟩
             have HB11 : Hid (Below wr.heap.size wr w_11) := Lib.hid ((Below.refl wr.heap.size wr).drew.trans hb11)
             obtain ⟨k11_0, k11_1, k11_2, k11_3, k11_4, k11_5, k11_6, k11_7, k11_8⟩ := HKR.out.below HB11.out (by exact hltR.out)
             clear hb11 k10_0 k10_1 k10_2 k10_3 k10_4 k10_5 k10_6 k10_7 k10_8))
      go_wp2_with fail
      go_roundw
      case rel => exact ⟨k + 1, by go_num, by omega, HBR.out.trans (HB12.out.mono HBR.out.size)⟩
      case measure => simp [intOf]; omega
    · have h7 : k = 7 := by omega
      subst h7
      have hltR : Hid (w2.heap.size < wr.heap.size) := Lib.hid (by have := hb.size; have := HZ2.out.1; omega)
      obtain ⟨k10_0, k10_1, k10_2, k10_3, k10_4, k10_5, k10_6, k10_7, k10_8⟩ := HKR.out
      clear hb
      go_wp2_with fail
      go_region_held3 (fun w' => w'.cell? ⟨w2.heap.size, 0, none⟩ = some (.int .i64 1) ∧ w'.cell? ⟨w2.heap.size, 1, none⟩ = some (.int .i64 sz) ∧ w'.cell? ⟨w2.heap.size, 2, none⟩ = some (.bool sg) ∧ w'.cell? ⟨w2.heap.size, 3, none⟩ = some (.bool false) ∧ w'.cell? ⟨w2.heap.size, 4, none⟩ = some (.pointer none) ∧ w'.cell? ⟨w2.heap.size, 5, none⟩ = some (.int .i64 0) ∧ w'.cell? ⟨w2.heap.size, 6, none⟩ = some (.int .i64 0) ∧ w'.cell? ⟨w2.heap.size, 7, none⟩ = some (.slice none 0 0) ∧ w'.cell? ⟨w2.heap.size, 8, none⟩ = some (.pointer none)) (go_keep)
        (first
          | (go_at_call 14
             (with_reducible refine (H3.out _).mono ?_)
             rintro e w_14 ⟨rfl, hb14⟩
             have HB14 : Hid (Below wr.heap.size wr w_14) := Lib.hid (HB13.out.trans (hb14.mono HB13.out.size))
             obtain ⟨k14_0, k14_1, k14_2, k14_3, k14_4, k14_5, k14_6, k14_7, k14_8⟩ := HKR.out.below HB14.out (by exact hltR.out)
             clear hb14 k13_0 k13_1 k13_2 k13_3 k13_4 k13_5 k13_6 k13_7 k13_8)
          | (go_at_call 14
             (with_reducible refine (H2.out _).mono ?_)
             rintro e w_13 ⟨rfl, hb13⟩
             have HB13 : Hid (Below wr.heap.size wr w_13) := Lib.hid (HB12.out.trans (hb13.mono HB12.out.size))
             obtain ⟨k13_0, k13_1, k13_2, k13_3, k13_4, k13_5, k13_6, k13_7, k13_8⟩ := HKR.out.below HB13.out (by exact hltR.out)
             clear hb13 k12_0 k12_1 k12_2 k12_3 k12_4 k12_5 k12_6 k12_7 k12_8 HB11)
          | (go_at_call 14
             (with_reducible refine (H5.out _).mono ?_)
             rintro e w_12 ⟨rfl, hb12⟩
             have HB12 : Hid (Below wr.heap.size wr w_12) := Lib.hid (HB11.out.trans (hb12.mono HB11.out.size))
             obtain ⟨k12_0, k12_1, k12_2, k12_3, k12_4, k12_5, k12_6, k12_7, k12_8⟩ := HKR.out.below HB12.out (by exact hltR.out)
             clear hb12 k11_0 k11_1 k11_2 k11_3 k11_4 k11_5 k11_6 k11_7 k11_8)
          | (go_at_call 14
             (with_reducible refine (H2.out _).mono ?_)
             rintro e w_11 ⟨rfl, hb11⟩
             have HB11 : Hid (Below wr.heap.size wr w_11) := Lib.hid ((Below.refl wr.heap.size wr).drew.trans hb11)
             obtain ⟨k11_0, k11_1, k11_2, k11_3, k11_4, k11_5, k11_6, k11_7, k11_8⟩ := HKR.out.below HB11.out (by exact hltR.out)
             clear hb11 k10_0 k10_1 k10_2 k10_3 k10_4 k10_5 k10_6 k10_7 k10_8))
      go_wp2_with fail
      go_ret
      exact ⟨rfl, HBV.out.trans ((HBR.out.trans (HB14.out.mono HBR.out.size)).mono (by have := HSW.out; have := HSZ.out; have := HZ2.out.1; omega))⟩


end Go.Proofs.Ytbflijjkdndefaa
