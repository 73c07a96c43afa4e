import Derived.Test.YtbflijjkdndefaaArS
namespace Go.Proofs.Ytbflijjkdndefaa
open Go Go.RowKit
set_option linter.unusedVariables false
set_option linter.unusedSimpArgs false
theorem t9_set (w : World) (b sz : Nat) (sg : Bool) (H : ∀ o, o < 9 → (w.cell? ⟨b, o, none⟩).isSome = true) : T9 (((((((((w.setCell ⟨b, 0, none⟩ (.int .i64 1)).setCell ⟨b, 1, none⟩ (.int .i64 sz)).setCell ⟨b, 2, none⟩ (.bool sg)).setCell ⟨b, 3, none⟩ (.bool false)).setCell ⟨b, 4, none⟩ (.pointer none)).setCell ⟨b, 5, none⟩ (.int .i64 0)).setCell ⟨b, 6, none⟩ (.int .i64 0)).setCell ⟨b, 7, none⟩ (.slice none 0 0)).setCell ⟨b, 8, none⟩ (.pointer none)) b sz sg := by
  have h0 := H 0 (by omega)
  have h1 := H 1 (by omega)
  have h2 := H 2 (by omega)
  have h3 := H 3 (by omega)
  have h4 := H 4 (by omega)
  have h5 := H 5 (by omega)
  have h6 := H 6 (by omega)
  have h7 := H 7 (by omega)
  have h8 := H 8 (by omega)
  constructor <;> simp [go_sem, World.cell?_setCell_other, h0, h1, h2, h3, h4, h5, h6, h7, h8]

set_option maxHeartbeats 8000000 in
theorem bins_0 (sz : Nat) (sg : Bool) (how h2 a b x y r : Int) (ok : Bool)
    (CT : ∀ w, Calls Try.prog 8 #[.int .i64 how] w (TypeIs sz sg w))
    (CO : ∀ w, Calls Try.prog 9 #[.int .i64 h2] w (StrIs ⟨#[43]⟩ w))
    (CX : ∀ w, Calls Try.prog 10 #[.agg #[.int .i64 1, .int .i64 sz, .bool sg, .bool false, .pointer none, .int .i64 0, .int .i64 0, .slice none 0 0, .pointer none], .int .i64 a] w (IntIs .i64 x w))
    (CY : ∀ w, Calls Try.prog 10 #[.agg #[.int .i64 1, .int .i64 sz, .bool sg, .bool false, .pointer none, .int .i64 0, .int .i64 0, .slice none 0 0, .pointer none], .int .i64 b] w (IntIs .i64 y w))
    (CB : ∀ w, Calls Try.prog 11 #[.string ⟨#[43]⟩, .agg #[.int .i64 1, .int .i64 sz, .bool sg, .bool false, .pointer none, .int .i64 0, .int .i64 0, .slice none 0 0, .pointer none], .int .i64 x, .int .i64 y] w (PairIs r ok w))
    (CR : ∀ w, Calls Try.prog 12 #[.string ⟨#[43]⟩, .agg #[.int .i64 1, .int .i64 sz, .bool sg, .bool false, .pointer none, .int .i64 0, .int .i64 0, .slice none 0 0, .pointer none], .int .i64 x, .int .i64 y] w (PairIs r ok w))
    (w : World) : Calls Try.prog 3 #[.agg #[.int .i64 how, .int .i64 h2], .int .i64 a, .int .i64 b] w (BoolIs true w) := by
  have HT := Lib.hid CT
  have HO := Lib.hid CO
  have HX := Lib.hid CX
  have HY := Lib.hid CY
  clear CY
  have HBN := Lib.hid CB
  have HRN := Lib.hid CR
  clear CT CO CX CB CR
  go_enter Try.func3, Try.ntmps3
  go_wp2_with fail
  refine (fit_law _).mono ?_
  rintro e w1 ⟨rfl, hb1⟩
  have hk0 : w1.cell? ⟨w.heap.size, 0, none⟩ = some (.int .i64 how) := by rw [hb1.cell (by simp)]; simp
  have hk1 : w1.cell? ⟨w.heap.size, 1, none⟩ = some (.int .i64 h2) := by rw [hb1.cell (by simp)]; simp
  have hw1 : w.heap.size < w1.heap.size := by have := hb1.size; simp at this; omega
  have HB0 := Lib.hid (((Below.refl _ _).alloc (Nat.le_refl _) _).trans (hb1.mono (by simp)))
  have HK0 := Lib.hid hk0
  have HK1 := Lib.hid hk1
  have HW1 := Lib.hid hw1
  have ne1 : ¬ w.heap.size = w1.heap.size := by omega
  have en1 : ¬ w1.heap.size = w.heap.size := by omega
  clear hb1
  go_wp2_with fail
  go_region_held3 (fun w' => w'.cell? ⟨w.heap.size, 0, none⟩ = some (.int .i64 how) ∧ w'.cell? ⟨w.heap.size, 1, none⟩ = some (.int .i64 h2)) (go_keep)
    (first
      | (go_at_call 9
         refine (HO.out _).mono ?_
         rintro e w3 ⟨rfl, hb3⟩
         obtain ⟨hc3, hf3⟩ := bcell hb3
         have hs3 := hb3.size
         (try simp [go_sem] at hs3)
         (first | (have lt3 : w2.heap.size < w3.heap.size := by omega) | skip)
         have HB3 : Hid (Below w1.heap.size w1 w3) := Lib.hid (by
           first
           | exact HB2.out.trans (hb3.mono HB2.out.size)
           | exact (HB2.out.alloc HB2.out.size _).trans (hb3.mono (by have := HB2.out.size; simp; omega)))
         have hk0'' : w3.cell? ⟨w.heap.size, 0, none⟩ = some (.int .i64 how) := by rw [HB3.out.cell (by exact HW1.out)]; exact HK0.out
         have hk1'' : w3.cell? ⟨w.heap.size, 1, none⟩ = some (.int .i64 h2) := by rw [HB3.out.cell (by exact HW1.out)]; exact HK1.out
         have hz3 : w.heap.size < w3.heap.size := by have h1 := HB3.out.size; have h2 := HW1.out; omega
         have ne3 : ¬ w.heap.size = w3.heap.size := by omega
         have en3 : ¬ w3.heap.size = w.heap.size := by omega
         skip)
      | (go_at_call 8
         refine (HT.out _).mono ?_
         rintro e w2 ⟨rfl, hb2⟩
         obtain ⟨hc2, hf2⟩ := bcell hb2
         have hs2 := hb2.size
         (try simp [go_sem] at hs2)
         (first | (have lt2 : w1.heap.size < w2.heap.size := by omega) | skip)
         rw [show tV sz sg = .agg #[.int .i64 1, .int .i64 sz, .bool sg, .bool false, .pointer none, .int .i64 0, .int .i64 0, .slice none 0 0, .pointer none] from rfl]
         have HB2 : Hid (Below w1.heap.size w1 w2) := Lib.hid (by
           first
           | exact (Below.refl _ _).drew.trans hb2
           | exact ((Below.refl _ _).drew.alloc (by simp) _).trans (hb2.mono (by simp))
           | exact ((Below.refl _ _).alloc (Nat.le_refl _) _).trans (hb2.mono (by simp)))
         have hk0' : w2.cell? ⟨w.heap.size, 0, none⟩ = some (.int .i64 how) := by rw [HB2.out.cell (by exact HW1.out)]; exact HK0.out
         have hk1' : w2.cell? ⟨w.heap.size, 1, none⟩ = some (.int .i64 h2) := by rw [HB2.out.cell (by exact HW1.out)]; exact HK1.out
         have hz2 : w.heap.size < w2.heap.size := by have h1 := HB2.out.size; have h2 := HW1.out; omega
         have ne2 : ¬ w.heap.size = w2.heap.size := by omega
         have en2 : ¬ w2.heap.size = w.heap.size := by omega
         skip))
  · go_wp2_with fail
    generalize hW : World.alloc _ _ = W
    have HK : Hid (T9 W w3.heap.size sz sg) := Lib.hid (by rw [← hW]; exact t9_alloc w3 sz sg _)
    have HBW : Hid (Below w.heap.size w W) := Lib.hid (by
      have hb := HB0.out.trans (HB3.out.mono HB0.out.size)
      have h1 := HB0.out.size
      have h2 := HB2.out.size
      have h3 := HB3.out.size
      rw [← hW]
      ((repeat (first | (with_reducible exact hb) | (with_reducible apply Below.setCell) | (with_reducible apply Below.alloc))) <;> first | omega | (simp; omega)))
    have HLT : Hid (w3.heap.size < W.heap.size) := Lib.hid (by rw [← hW]; simp)
    obtain ⟨k0_0, k0_1, k0_2, k0_3, k0_4, k0_5, k0_6, k0_7, k0_8⟩ := HK.out
    clear hW hb2 hc2 hf2 hb3 hc3 hf3 hk0 hk1 hk0' hk1' hk0'' hk1''
    (with_reducible refine (HX.out _).mono ?_)
    rintro e w_1 ⟨rfl, hb1⟩
    have HB1 : Hid (Below W.heap.size W w_1) := Lib.hid ((Below.refl W.heap.size W).trans hb1)
    obtain ⟨k1_0, k1_1, k1_2, k1_3, k1_4, k1_5, k1_6, k1_7, k1_8⟩ := HK.out.below HB1.out (by exact HLT.out)
    clear hb1 k0_0 k0_1 k0_2 k0_3 k0_4 k0_5 k0_6 k0_7 k0_8
    go_wp2_with fail
    (with_reducible refine (HY.out _).mono ?_)
    rintro e w_2 ⟨rfl, hb2⟩
    have HB2 : Hid (Below W.heap.size W w_2) := Lib.hid (HB1.out.trans (hb2.mono HB1.out.size))
    obtain ⟨k2_0, k2_1, k2_2, k2_3, k2_4, k2_5, k2_6, k2_7, k2_8⟩ := HK.out.below HB2.out (by exact HLT.out)
    clear hb2 k1_0 k1_1 k1_2 k1_3 k1_4 k1_5 k1_6 k1_7 k1_8
    go_wp2_with fail
    (with_reducible refine (HBN.out _).mono ?_)
    rintro e w_3 ⟨rfl, hb3⟩
    have HB3 : Hid (Below W.heap.size W w_3) := Lib.hid (HB2.out.trans (hb3.mono HB2.out.size))
    obtain ⟨k3_0, k3_1, k3_2, k3_3, k3_4, k3_5, k3_6, k3_7, k3_8⟩ := HK.out.below HB3.out (by exact HLT.out)
    clear hb3 k2_0 k2_1 k2_2 k2_3 k2_4 k2_5 k2_6 k2_7 k2_8
    go_wp2_with fail
    (with_reducible refine (HRN.out _).mono ?_)
    rintro e w_4 ⟨rfl, hb4⟩
    have HB4 : Hid (Below W.heap.size W w_4) := Lib.hid (HB3.out.trans (hb4.mono HB3.out.size))
    obtain ⟨k4_0, k4_1, k4_2, k4_3, k4_4, k4_5, k4_6, k4_7, k4_8⟩ := HK.out.below HB4.out (by exact HLT.out)
    clear hb4 k3_0 k3_1 k3_2 k3_3 k3_4 k3_5 k3_6 k3_7 k3_8
    go_wp2_with fail
    go_ret
    exact ⟨rfl, HBW.out.trans (HB4.out.mono HBW.out.size)⟩
  · go_wp2_with fail
    generalize hW : World.setCell _ _ _ = W
    have HK : Hid (T9 W w2.heap.size sz sg) := Lib.hid (by rw [← hW]; exact t9_set _ _ _ _ (fun o ho => by rw [hc3 _ _ (by simp)]; rw [World.cell?_alloc_new]; simp; omega))
    have HBW : Hid (Below w.heap.size w W) := Lib.hid (by
      have hb := HB0.out.trans (HB3.out.mono HB0.out.size)
      have h1 := HB0.out.size
      have h2 := HB2.out.size
      have h3 := HB3.out.size
      rw [← hW]
      ((repeat (first | (with_reducible exact hb) | (with_reducible apply Below.setCell) | (with_reducible apply Below.alloc))) <;> first | omega | (simp; omega)))
    have HLT : Hid (w2.heap.size < W.heap.size) := Lib.hid (by rw [← hW]; have := HB3.out.size; simp; omega)
    obtain ⟨k0_0, k0_1, k0_2, k0_3, k0_4, k0_5, k0_6, k0_7, k0_8⟩ := HK.out
    clear hW hb2 hc2 hf2 hb3 hc3 hf3 hk0 hk1 hk0' hk1' hk0'' hk1''
    (with_reducible refine (HX.out _).mono ?_)
    rintro e w_1 ⟨rfl, hb1⟩
    have HB1 : Hid (Below W.heap.size W w_1) := Lib.hid ((Below.refl W.heap.size W).trans hb1)
    obtain ⟨k1_0, k1_1, k1_2, k1_3, k1_4, k1_5, k1_6, k1_7, k1_8⟩ := HK.out.below HB1.out (by exact HLT.out)
    clear hb1 k0_0 k0_1 k0_2 k0_3 k0_4 k0_5 k0_6 k0_7 k0_8
    go_wp2_with fail
    (with_reducible refine (HY.out _).mono ?_)
    rintro e w_2 ⟨rfl, hb2⟩
    have HB2 : Hid (Below W.heap.size W w_2) := Lib.hid (HB1.out.trans (hb2.mono HB1.out.size))
    obtain ⟨k2_0, k2_1, k2_2, k2_3, k2_4, k2_5, k2_6, k2_7, k2_8⟩ := HK.out.below HB2.out (by exact HLT.out)
    clear hb2 k1_0 k1_1 k1_2 k1_3 k1_4 k1_5 k1_6 k1_7 k1_8
    go_wp2_with fail
    (with_reducible refine (HBN.out _).mono ?_)
    rintro e w_3 ⟨rfl, hb3⟩
    have HB3 : Hid (Below W.heap.size W w_3) := Lib.hid (HB2.out.trans (hb3.mono HB2.out.size))
    obtain ⟨k3_0, k3_1, k3_2, k3_3, k3_4, k3_5, k3_6, k3_7, k3_8⟩ := HK.out.below HB3.out (by exact HLT.out)
    clear hb3 k2_0 k2_1 k2_2 k2_3 k2_4 k2_5 k2_6 k2_7 k2_8
    go_wp2_with fail
    (with_reducible refine (HRN.out _).mono ?_)
    rintro e w_4 ⟨rfl, hb4⟩
    have HB4 : Hid (Below W.heap.size W w_4) := Lib.hid (HB3.out.trans (hb4.mono HB3.out.size))
    obtain ⟨k4_0, k4_1, k4_2, k4_3, k4_4, k4_5, k4_6, k4_7, k4_8⟩ := HK.out.below HB4.out (by exact HLT.out)
    clear hb4 k3_0 k3_1 k3_2 k3_3 k3_4 k3_5 k3_6 k3_7 k3_8
    go_wp2_with fail
    go_ret
    exact ⟨rfl, HBW.out.trans (HB4.out.mono HBW.out.size)⟩
  · go_wp2_with fail
    generalize hW : World.setCell _ _ _ = W
    have HK : Hid (T9 W w1.heap.size sz sg) := Lib.hid (by rw [← hW]; exact t9_set _ _ _ _ (fun o ho => by rw [hc3 _ _ lt2, hc2 _ _ (by simp)]; first | (rw [World.cell?_alloc_new]; simp; omega) | (rw [show ∀ (W : World) (a : Addr), W.drew.cell? a = W.cell? a from fun _ _ => rfl, World.cell?_alloc_new]; simp; omega)))
    have HBW : Hid (Below w.heap.size w W) := Lib.hid (by
      have hb := HB0.out.trans (HB3.out.mono HB0.out.size)
      have h1 := HB0.out.size
      have h2 := HB2.out.size
      have h3 := HB3.out.size
      rw [← hW]
      ((repeat (first | (with_reducible exact hb) | (with_reducible apply Below.setCell) | (with_reducible apply Below.alloc))) <;> first | omega | (simp; omega)))
    have HLT : Hid (w1.heap.size < W.heap.size) := Lib.hid (by rw [← hW]; have := HB3.out.size; simp; omega)
    obtain ⟨k0_0, k0_1, k0_2, k0_3, k0_4, k0_5, k0_6, k0_7, k0_8⟩ := HK.out
    clear hW hb2 hc2 hf2 hb3 hc3 hf3 hk0 hk1 hk0' hk1' hk0'' hk1''
    (with_reducible refine (HX.out _).mono ?_)
    rintro e w_1 ⟨rfl, hb1⟩
    have HB1 : Hid (Below W.heap.size W w_1) := Lib.hid ((Below.refl W.heap.size W).trans hb1)
    obtain ⟨k1_0, k1_1, k1_2, k1_3, k1_4, k1_5, k1_6, k1_7, k1_8⟩ := HK.out.below HB1.out (by exact HLT.out)
    clear hb1 k0_0 k0_1 k0_2 k0_3 k0_4 k0_5 k0_6 k0_7 k0_8
    go_wp2_with fail
    (with_reducible refine (HY.out _).mono ?_)
    rintro e w_2 ⟨rfl, hb2⟩
    have HB2 : Hid (Below W.heap.size W w_2) := Lib.hid (HB1.out.trans (hb2.mono HB1.out.size))
    obtain ⟨k2_0, k2_1, k2_2, k2_3, k2_4, k2_5, k2_6, k2_7, k2_8⟩ := HK.out.below HB2.out (by exact HLT.out)
    clear hb2 k1_0 k1_1 k1_2 k1_3 k1_4 k1_5 k1_6 k1_7 k1_8
    go_wp2_with fail
    (with_reducible refine (HBN.out _).mono ?_)
    rintro e w_3 ⟨rfl, hb3⟩
    have HB3 : Hid (Below W.heap.size W w_3) := Lib.hid (HB2.out.trans (hb3.mono HB2.out.size))
    obtain ⟨k3_0, k3_1, k3_2, k3_3, k3_4, k3_5, k3_6, k3_7, k3_8⟩ := HK.out.below HB3.out (by exact HLT.out)
    clear hb3 k2_0 k2_1 k2_2 k2_3 k2_4 k2_5 k2_6 k2_7 k2_8
    go_wp2_with fail
    (with_reducible refine (HRN.out _).mono ?_)
    rintro e w_4 ⟨rfl, hb4⟩
    have HB4 : Hid (Below W.heap.size W w_4) := Lib.hid (HB3.out.trans (hb4.mono HB3.out.size))
    obtain ⟨k4_0, k4_1, k4_2, k4_3, k4_4, k4_5, k4_6, k4_7, k4_8⟩ := HK.out.below HB4.out (by exact HLT.out)
    clear hb4 k3_0 k3_1 k3_2 k3_3 k3_4 k3_5 k3_6 k3_7 k3_8
    go_wp2_with fail
    go_ret
    exact ⟨rfl, HBW.out.trans (HB4.out.mono HBW.out.size)⟩

set_option maxHeartbeats 8000000 in
theorem bins_1 (sz : Nat) (sg : Bool) (how h2 a b x y r : Int) (ok : Bool)
    (CT : ∀ w, Calls Try.prog 8 #[.int .i64 how] w (TypeIs sz sg w))
    (CO : ∀ w, Calls Try.prog 9 #[.int .i64 h2] w (StrIs ⟨#[45]⟩ w))
    (CX : ∀ w, Calls Try.prog 10 #[.agg #[.int .i64 1, .int .i64 sz, .bool sg, .bool false, .pointer none, .int .i64 0, .int .i64 0, .slice none 0 0, .pointer none], .int .i64 a] w (IntIs .i64 x w))
    (CY : ∀ w, Calls Try.prog 10 #[.agg #[.int .i64 1, .int .i64 sz, .bool sg, .bool false, .pointer none, .int .i64 0, .int .i64 0, .slice none 0 0, .pointer none], .int .i64 b] w (IntIs .i64 y w))
    (CB : ∀ w, Calls Try.prog 11 #[.string ⟨#[45]⟩, .agg #[.int .i64 1, .int .i64 sz, .bool sg, .bool false, .pointer none, .int .i64 0, .int .i64 0, .slice none 0 0, .pointer none], .int .i64 x, .int .i64 y] w (PairIs r ok w))
    (CR : ∀ w, Calls Try.prog 12 #[.string ⟨#[45]⟩, .agg #[.int .i64 1, .int .i64 sz, .bool sg, .bool false, .pointer none, .int .i64 0, .int .i64 0, .slice none 0 0, .pointer none], .int .i64 x, .int .i64 y] w (PairIs r ok w))
    (w : World) : Calls Try.prog 3 #[.agg #[.int .i64 how, .int .i64 h2], .int .i64 a, .int .i64 b] w (BoolIs true w) := by
  have HT := Lib.hid CT
  have HO := Lib.hid CO
  have HX := Lib.hid CX
  have HY := Lib.hid CY
  clear CY
  have HBN := Lib.hid CB
  have HRN := Lib.hid CR
  clear CT CO CX CB CR
  go_enter Try.func3, Try.ntmps3
  go_wp2_with fail
  refine (fit_law _).mono ?_
  rintro e w1 ⟨rfl, hb1⟩
  have hk0 : w1.cell? ⟨w.heap.size, 0, none⟩ = some (.int .i64 how) := by rw [hb1.cell (by simp)]; simp
  have hk1 : w1.cell? ⟨w.heap.size, 1, none⟩ = some (.int .i64 h2) := by rw [hb1.cell (by simp)]; simp
  have hw1 : w.heap.size < w1.heap.size := by have := hb1.size; simp at this; omega
  have HB0 := Lib.hid (((Below.refl _ _).alloc (Nat.le_refl _) _).trans (hb1.mono (by simp)))
  have HK0 := Lib.hid hk0
  have HK1 := Lib.hid hk1
  have HW1 := Lib.hid hw1
  have ne1 : ¬ w.heap.size = w1.heap.size := by omega
  have en1 : ¬ w1.heap.size = w.heap.size := by omega
  clear hb1
  go_wp2_with fail
  go_region_held3 (fun w' => w'.cell? ⟨w.heap.size, 0, none⟩ = some (.int .i64 how) ∧ w'.cell? ⟨w.heap.size, 1, none⟩ = some (.int .i64 h2)) (go_keep)
    (first
      | (go_at_call 9
         refine (HO.out _).mono ?_
         rintro e w3 ⟨rfl, hb3⟩
         obtain ⟨hc3, hf3⟩ := bcell hb3
         have hs3 := hb3.size
         (try simp [go_sem] at hs3)
         (first | (have lt3 : w2.heap.size < w3.heap.size := by omega) | skip)
         have HB3 : Hid (Below w1.heap.size w1 w3) := Lib.hid (by
           first
           | exact HB2.out.trans (hb3.mono HB2.out.size)
           | exact (HB2.out.alloc HB2.out.size _).trans (hb3.mono (by have := HB2.out.size; simp; omega)))
         have hk0'' : w3.cell? ⟨w.heap.size, 0, none⟩ = some (.int .i64 how) := by rw [HB3.out.cell (by exact HW1.out)]; exact HK0.out
         have hk1'' : w3.cell? ⟨w.heap.size, 1, none⟩ = some (.int .i64 h2) := by rw [HB3.out.cell (by exact HW1.out)]; exact HK1.out
         have hz3 : w.heap.size < w3.heap.size := by have h1 := HB3.out.size; have h2 := HW1.out; omega
         have ne3 : ¬ w.heap.size = w3.heap.size := by omega
         have en3 : ¬ w3.heap.size = w.heap.size := by omega
         skip)
      | (go_at_call 8
         refine (HT.out _).mono ?_
         rintro e w2 ⟨rfl, hb2⟩
         obtain ⟨hc2, hf2⟩ := bcell hb2
         have hs2 := hb2.size
         (try simp [go_sem] at hs2)
         (first | (have lt2 : w1.heap.size < w2.heap.size := by omega) | skip)
         rw [show tV sz sg = .agg #[.int .i64 1, .int .i64 sz, .bool sg, .bool false, .pointer none, .int .i64 0, .int .i64 0, .slice none 0 0, .pointer none] from rfl]
         have HB2 : Hid (Below w1.heap.size w1 w2) := Lib.hid (by
           first
           | exact (Below.refl _ _).drew.trans hb2
           | exact ((Below.refl _ _).drew.alloc (by simp) _).trans (hb2.mono (by simp))
           | exact ((Below.refl _ _).alloc (Nat.le_refl _) _).trans (hb2.mono (by simp)))
         have hk0' : w2.cell? ⟨w.heap.size, 0, none⟩ = some (.int .i64 how) := by rw [HB2.out.cell (by exact HW1.out)]; exact HK0.out
         have hk1' : w2.cell? ⟨w.heap.size, 1, none⟩ = some (.int .i64 h2) := by rw [HB2.out.cell (by exact HW1.out)]; exact HK1.out
         have hz2 : w.heap.size < w2.heap.size := by have h1 := HB2.out.size; have h2 := HW1.out; omega
         have ne2 : ¬ w.heap.size = w2.heap.size := by omega
         have en2 : ¬ w2.heap.size = w.heap.size := by omega
         skip))
  · go_wp2_with fail
    generalize hW : World.alloc _ _ = W
    have HK : Hid (T9 W w3.heap.size sz sg) := Lib.hid (by rw [← hW]; exact t9_alloc w3 sz sg _)
    have HBW : Hid (Below w.heap.size w W) := Lib.hid (by
      have hb := HB0.out.trans (HB3.out.mono HB0.out.size)
      have h1 := HB0.out.size
      have h2 := HB2.out.size
      have h3 := HB3.out.size
      rw [← hW]
      ((repeat (first | (with_reducible exact hb) | (with_reducible apply Below.setCell) | (with_reducible apply Below.alloc))) <;> first | omega | (simp; omega)))
    have HLT : Hid (w3.heap.size < W.heap.size) := Lib.hid (by rw [← hW]; simp)
    obtain ⟨k0_0, k0_1, k0_2, k0_3, k0_4, k0_5, k0_6, k0_7, k0_8⟩ := HK.out
    clear hW hb2 hc2 hf2 hb3 hc3 hf3 hk0 hk1 hk0' hk1' hk0'' hk1''
    (with_reducible refine (HX.out _).mono ?_)
    rintro e w_1 ⟨rfl, hb1⟩
    have HB1 : Hid (Below W.heap.size W w_1) := Lib.hid ((Below.refl W.heap.size W).trans hb1)
    obtain ⟨k1_0, k1_1, k1_2, k1_3, k1_4, k1_5, k1_6, k1_7, k1_8⟩ := HK.out.below HB1.out (by exact HLT.out)
    clear hb1 k0_0 k0_1 k0_2 k0_3 k0_4 k0_5 k0_6 k0_7 k0_8
    go_wp2_with fail
    (with_reducible refine (HY.out _).mono ?_)
    rintro e w_2 ⟨rfl, hb2⟩
    have HB2 : Hid (Below W.heap.size W w_2) := Lib.hid (HB1.out.trans (hb2.mono HB1.out.size))
    obtain ⟨k2_0, k2_1, k2_2, k2_3, k2_4, k2_5, k2_6, k2_7, k2_8⟩ := HK.out.below HB2.out (by exact HLT.out)
    clear hb2 k1_0 k1_1 k1_2 k1_3 k1_4 k1_5 k1_6 k1_7 k1_8
    go_wp2_with fail
    (with_reducible refine (HBN.out _).mono ?_)
    rintro e w_3 ⟨rfl, hb3⟩
    have HB3 : Hid (Below W.heap.size W w_3) := Lib.hid (HB2.out.trans (hb3.mono HB2.out.size))
    obtain ⟨k3_0, k3_1, k3_2, k3_3, k3_4, k3_5, k3_6, k3_7, k3_8⟩ := HK.out.below HB3.out (by exact HLT.out)
    clear hb3 k2_0 k2_1 k2_2 k2_3 k2_4 k2_5 k2_6 k2_7 k2_8
    go_wp2_with fail
    (with_reducible refine (HRN.out _).mono ?_)
    rintro e w_4 ⟨rfl, hb4⟩
    have HB4 : Hid (Below W.heap.size W w_4) := Lib.hid (HB3.out.trans (hb4.mono HB3.out.size))
    obtain ⟨k4_0, k4_1, k4_2, k4_3, k4_4, k4_5, k4_6, k4_7, k4_8⟩ := HK.out.below HB4.out (by exact HLT.out)
    clear hb4 k3_0 k3_1 k3_2 k3_3 k3_4 k3_5 k3_6 k3_7 k3_8
    go_wp2_with fail
    go_ret
    exact ⟨rfl, HBW.out.trans (HB4.out.mono HBW.out.size)⟩
  · go_wp2_with fail
    generalize hW : World.setCell _ _ _ = W
    have HK : Hid (T9 W w2.heap.size sz sg) := Lib.hid (by rw [← hW]; exact t9_set _ _ _ _ (fun o ho => by rw [hc3 _ _ (by simp)]; rw [World.cell?_alloc_new]; simp; omega))
    have HBW : Hid (Below w.heap.size w W) := Lib.hid (by
      have hb := HB0.out.trans (HB3.out.mono HB0.out.size)
      have h1 := HB0.out.size
      have h2 := HB2.out.size
      have h3 := HB3.out.size
      rw [← hW]
      ((repeat (first | (with_reducible exact hb) | (with_reducible apply Below.setCell) | (with_reducible apply Below.alloc))) <;> first | omega | (simp; omega)))
    have HLT : Hid (w2.heap.size < W.heap.size) := Lib.hid (by rw [← hW]; have := HB3.out.size; simp; omega)
    obtain ⟨k0_0, k0_1, k0_2, k0_3, k0_4, k0_5, k0_6, k0_7, k0_8⟩ := HK.out
    clear hW hb2 hc2 hf2 hb3 hc3 hf3 hk0 hk1 hk0' hk1' hk0'' hk1''
    (with_reducible refine (HX.out _).mono ?_)
    rintro e w_1 ⟨rfl, hb1⟩
    have HB1 : Hid (Below W.heap.size W w_1) := Lib.hid ((Below.refl W.heap.size W).trans hb1)
    obtain ⟨k1_0, k1_1, k1_2, k1_3, k1_4, k1_5, k1_6, k1_7, k1_8⟩ := HK.out.below HB1.out (by exact HLT.out)
    clear hb1 k0_0 k0_1 k0_2 k0_3 k0_4 k0_5 k0_6 k0_7 k0_8
    go_wp2_with fail
    (with_reducible refine (HY.out _).mono ?_)
    rintro e w_2 ⟨rfl, hb2⟩
    have HB2 : Hid (Below W.heap.size W w_2) := Lib.hid (HB1.out.trans (hb2.mono HB1.out.size))
    obtain ⟨k2_0, k2_1, k2_2, k2_3, k2_4, k2_5, k2_6, k2_7, k2_8⟩ := HK.out.below HB2.out (by exact HLT.out)
    clear hb2 k1_0 k1_1 k1_2 k1_3 k1_4 k1_5 k1_6 k1_7 k1_8
    go_wp2_with fail
    (with_reducible refine (HBN.out _).mono ?_)
    rintro e w_3 ⟨rfl, hb3⟩
    have HB3 : Hid (Below W.heap.size W w_3) := Lib.hid (HB2.out.trans (hb3.mono HB2.out.size))
    obtain ⟨k3_0, k3_1, k3_2, k3_3, k3_4, k3_5, k3_6, k3_7, k3_8⟩ := HK.out.below HB3.out (by exact HLT.out)
    clear hb3 k2_0 k2_1 k2_2 k2_3 k2_4 k2_5 k2_6 k2_7 k2_8
    go_wp2_with fail
    (with_reducible refine (HRN.out _).mono ?_)
    rintro e w_4 ⟨rfl, hb4⟩
    have HB4 : Hid (Below W.heap.size W w_4) := Lib.hid (HB3.out.trans (hb4.mono HB3.out.size))
    obtain ⟨k4_0, k4_1, k4_2, k4_3, k4_4, k4_5, k4_6, k4_7, k4_8⟩ := HK.out.below HB4.out (by exact HLT.out)
    clear hb4 k3_0 k3_1 k3_2 k3_3 k3_4 k3_5 k3_6 k3_7 k3_8
    go_wp2_with fail
    go_ret
    exact ⟨rfl, HBW.out.trans (HB4.out.mono HBW.out.size)⟩
  · go_wp2_with fail
    generalize hW : World.setCell _ _ _ = W
    have HK : Hid (T9 W w1.heap.size sz sg) := Lib.hid (by rw [← hW]; exact t9_set _ _ _ _ (fun o ho => by rw [hc3 _ _ lt2, hc2 _ _ (by simp)]; first | (rw [World.cell?_alloc_new]; simp; omega) | (rw [show ∀ (W : World) (a : Addr), W.drew.cell? a = W.cell? a from fun _ _ => rfl, World.cell?_alloc_new]; simp; omega)))
    have HBW : Hid (Below w.heap.size w W) := Lib.hid (by
      have hb := HB0.out.trans (HB3.out.mono HB0.out.size)
      have h1 := HB0.out.size
      have h2 := HB2.out.size
      have h3 := HB3.out.size
      rw [← hW]
      ((repeat (first | (with_reducible exact hb) | (with_reducible apply Below.setCell) | (with_reducible apply Below.alloc))) <;> first | omega | (simp; omega)))
    have HLT : Hid (w1.heap.size < W.heap.size) := Lib.hid (by rw [← hW]; have := HB3.out.size; simp; omega)
    obtain ⟨k0_0, k0_1, k0_2, k0_3, k0_4, k0_5, k0_6, k0_7, k0_8⟩ := HK.out
    clear hW hb2 hc2 hf2 hb3 hc3 hf3 hk0 hk1 hk0' hk1' hk0'' hk1''
    (with_reducible refine (HX.out _).mono ?_)
    rintro e w_1 ⟨rfl, hb1⟩
    have HB1 : Hid (Below W.heap.size W w_1) := Lib.hid ((Below.refl W.heap.size W).trans hb1)
    obtain ⟨k1_0, k1_1, k1_2, k1_3, k1_4, k1_5, k1_6, k1_7, k1_8⟩ := HK.out.below HB1.out (by exact HLT.out)
    clear hb1 k0_0 k0_1 k0_2 k0_3 k0_4 k0_5 k0_6 k0_7 k0_8
    go_wp2_with fail
    (with_reducible refine (HY.out _).mono ?_)
    rintro e w_2 ⟨rfl, hb2⟩
    have HB2 : Hid (Below W.heap.size W w_2) := Lib.hid (HB1.out.trans (hb2.mono HB1.out.size))
    obtain ⟨k2_0, k2_1, k2_2, k2_3, k2_4, k2_5, k2_6, k2_7, k2_8⟩ := HK.out.below HB2.out (by exact HLT.out)
    clear hb2 k1_0 k1_1 k1_2 k1_3 k1_4 k1_5 k1_6 k1_7 k1_8
    go_wp2_with fail
    (with_reducible refine (HBN.out _).mono ?_)
    rintro e w_3 ⟨rfl, hb3⟩
    have HB3 : Hid (Below W.heap.size W w_3) := Lib.hid (HB2.out.trans (hb3.mono HB2.out.size))
    obtain ⟨k3_0, k3_1, k3_2, k3_3, k3_4, k3_5, k3_6, k3_7, k3_8⟩ := HK.out.below HB3.out (by exact HLT.out)
    clear hb3 k2_0 k2_1 k2_2 k2_3 k2_4 k2_5 k2_6 k2_7 k2_8
    go_wp2_with fail
    (with_reducible refine (HRN.out _).mono ?_)
    rintro e w_4 ⟨rfl, hb4⟩
    have HB4 : Hid (Below W.heap.size W w_4) := Lib.hid (HB3.out.trans (hb4.mono HB3.out.size))
    obtain ⟨k4_0, k4_1, k4_2, k4_3, k4_4, k4_5, k4_6, k4_7, k4_8⟩ := HK.out.below HB4.out (by exact HLT.out)
    clear hb4 k3_0 k3_1 k3_2 k3_3 k3_4 k3_5 k3_6 k3_7 k3_8
    go_wp2_with fail
    go_ret
    exact ⟨rfl, HBW.out.trans (HB4.out.mono HBW.out.size)⟩

set_option maxHeartbeats 8000000 in
theorem bins_2 (sz : Nat) (sg : Bool) (how h2 a b x y r : Int) (ok : Bool)
    (CT : ∀ w, Calls Try.prog 8 #[.int .i64 how] w (TypeIs sz sg w))
    (CO : ∀ w, Calls Try.prog 9 #[.int .i64 h2] w (StrIs ⟨#[42]⟩ w))
    (CX : ∀ w, Calls Try.prog 10 #[.agg #[.int .i64 1, .int .i64 sz, .bool sg, .bool false, .pointer none, .int .i64 0, .int .i64 0, .slice none 0 0, .pointer none], .int .i64 a] w (IntIs .i64 x w))
    (CY : ∀ w, Calls Try.prog 10 #[.agg #[.int .i64 1, .int .i64 sz, .bool sg, .bool false, .pointer none, .int .i64 0, .int .i64 0, .slice none 0 0, .pointer none], .int .i64 b] w (IntIs .i64 y w))
    (CB : ∀ w, Calls Try.prog 11 #[.string ⟨#[42]⟩, .agg #[.int .i64 1, .int .i64 sz, .bool sg, .bool false, .pointer none, .int .i64 0, .int .i64 0, .slice none 0 0, .pointer none], .int .i64 x, .int .i64 y] w (PairIs r ok w))
    (CR : ∀ w, Calls Try.prog 12 #[.string ⟨#[42]⟩, .agg #[.int .i64 1, .int .i64 sz, .bool sg, .bool false, .pointer none, .int .i64 0, .int .i64 0, .slice none 0 0, .pointer none], .int .i64 x, .int .i64 y] w (PairIs r ok w))
    (w : World) : Calls Try.prog 3 #[.agg #[.int .i64 how, .int .i64 h2], .int .i64 a, .int .i64 b] w (BoolIs true w) := by
  have HT := Lib.hid CT
  have HO := Lib.hid CO
  have HX := Lib.hid CX
  have HY := Lib.hid CY
  clear CY
  have HBN := Lib.hid CB
  have HRN := Lib.hid CR
  clear CT CO CX CB CR
  go_enter Try.func3, Try.ntmps3
  go_wp2_with fail
  refine (fit_law _).mono ?_
  rintro e w1 ⟨rfl, hb1⟩
  have hk0 : w1.cell? ⟨w.heap.size, 0, none⟩ = some (.int .i64 how) := by rw [hb1.cell (by simp)]; simp
  have hk1 : w1.cell? ⟨w.heap.size, 1, none⟩ = some (.int .i64 h2) := by rw [hb1.cell (by simp)]; simp
  have hw1 : w.heap.size < w1.heap.size := by have := hb1.size; simp at this; omega
  have HB0 := Lib.hid (((Below.refl _ _).alloc (Nat.le_refl _) _).trans (hb1.mono (by simp)))
  have HK0 := Lib.hid hk0
  have HK1 := Lib.hid hk1
  have HW1 := Lib.hid hw1
  have ne1 : ¬ w.heap.size = w1.heap.size := by omega
  have en1 : ¬ w1.heap.size = w.heap.size := by omega
  clear hb1
  go_wp2_with fail
  go_region_held3 (fun w' => w'.cell? ⟨w.heap.size, 0, none⟩ = some (.int .i64 how) ∧ w'.cell? ⟨w.heap.size, 1, none⟩ = some (.int .i64 h2)) (go_keep)
    (first
      | (go_at_call 9
         refine (HO.out _).mono ?_
         rintro e w3 ⟨rfl, hb3⟩
         obtain ⟨hc3, hf3⟩ := bcell hb3
         have hs3 := hb3.size
         (try simp [go_sem] at hs3)
         (first | (have lt3 : w2.heap.size < w3.heap.size := by omega) | skip)
         have HB3 : Hid (Below w1.heap.size w1 w3) := Lib.hid (by
           first
           | exact HB2.out.trans (hb3.mono HB2.out.size)
           | exact (HB2.out.alloc HB2.out.size _).trans (hb3.mono (by have := HB2.out.size; simp; omega)))
         have hk0'' : w3.cell? ⟨w.heap.size, 0, none⟩ = some (.int .i64 how) := by rw [HB3.out.cell (by exact HW1.out)]; exact HK0.out
         have hk1'' : w3.cell? ⟨w.heap.size, 1, none⟩ = some (.int .i64 h2) := by rw [HB3.out.cell (by exact HW1.out)]; exact HK1.out
         have hz3 : w.heap.size < w3.heap.size := by have h1 := HB3.out.size; have h2 := HW1.out; omega
         have ne3 : ¬ w.heap.size = w3.heap.size := by omega
         have en3 : ¬ w3.heap.size = w.heap.size := by omega
         skip)
      | (go_at_call 8
         refine (HT.out _).mono ?_
         rintro e w2 ⟨rfl, hb2⟩
         obtain ⟨hc2, hf2⟩ := bcell hb2
         have hs2 := hb2.size
         (try simp [go_sem] at hs2)
         (first | (have lt2 : w1.heap.size < w2.heap.size := by omega) | skip)
         rw [show tV sz sg = .agg #[.int .i64 1, .int .i64 sz, .bool sg, .bool false, .pointer none, .int .i64 0, .int .i64 0, .slice none 0 0, .pointer none] from rfl]
         have HB2 : Hid (Below w1.heap.size w1 w2) := Lib.hid (by
           first
           | exact (Below.refl _ _).drew.trans hb2
           | exact ((Below.refl _ _).drew.alloc (by simp) _).trans (hb2.mono (by simp))
           | exact ((Below.refl _ _).alloc (Nat.le_refl _) _).trans (hb2.mono (by simp)))
         have hk0' : w2.cell? ⟨w.heap.size, 0, none⟩ = some (.int .i64 how) := by rw [HB2.out.cell (by exact HW1.out)]; exact HK0.out
         have hk1' : w2.cell? ⟨w.heap.size, 1, none⟩ = some (.int .i64 h2) := by rw [HB2.out.cell (by exact HW1.out)]; exact HK1.out
         have hz2 : w.heap.size < w2.heap.size := by have h1 := HB2.out.size; have h2 := HW1.out; omega
         have ne2 : ¬ w.heap.size = w2.heap.size := by omega
         have en2 : ¬ w2.heap.size = w.heap.size := by omega
         skip))
  · go_wp2_with fail
    generalize hW : World.alloc _ _ = W
    have HK : Hid (T9 W w3.heap.size sz sg) := Lib.hid (by rw [← hW]; exact t9_alloc w3 sz sg _)
    have HBW : Hid (Below w.heap.size w W) := Lib.hid (by
      have hb := HB0.out.trans (HB3.out.mono HB0.out.size)
      have h1 := HB0.out.size
      have h2 := HB2.out.size
      have h3 := HB3.out.size
      rw [← hW]
      ((repeat (first | (with_reducible exact hb) | (with_reducible apply Below.setCell) | (with_reducible apply Below.alloc))) <;> first | omega | (simp; omega)))
    have HLT : Hid (w3.heap.size < W.heap.size) := Lib.hid (by rw [← hW]; simp)
    obtain ⟨k0_0, k0_1, k0_2, k0_3, k0_4, k0_5, k0_6, k0_7, k0_8⟩ := HK.out
    clear hW hb2 hc2 hf2 hb3 hc3 hf3 hk0 hk1 hk0' hk1' hk0'' hk1''
    (with_reducible refine (HX.out _).mono ?_)
    rintro e w_1 ⟨rfl, hb1⟩
    have HB1 : Hid (Below W.heap.size W w_1) := Lib.hid ((Below.refl W.heap.size W).trans hb1)
    obtain ⟨k1_0, k1_1, k1_2, k1_3, k1_4, k1_5, k1_6, k1_7, k1_8⟩ := HK.out.below HB1.out (by exact HLT.out)
    clear hb1 k0_0 k0_1 k0_2 k0_3 k0_4 k0_5 k0_6 k0_7 k0_8
    go_wp2_with fail
    (with_reducible refine (HY.out _).mono ?_)
    rintro e w_2 ⟨rfl, hb2⟩
    have HB2 : Hid (Below W.heap.size W w_2) := Lib.hid (HB1.out.trans (hb2.mono HB1.out.size))
    obtain ⟨k2_0, k2_1, k2_2, k2_3, k2_4, k2_5, k2_6, k2_7, k2_8⟩ := HK.out.below HB2.out (by exact HLT.out)
    clear hb2 k1_0 k1_1 k1_2 k1_3 k1_4 k1_5 k1_6 k1_7 k1_8
    go_wp2_with fail
    (with_reducible refine (HBN.out _).mono ?_)
    rintro e w_3 ⟨rfl, hb3⟩
    have HB3 : Hid (Below W.heap.size W w_3) := Lib.hid (HB2.out.trans (hb3.mono HB2.out.size))
    obtain ⟨k3_0, k3_1, k3_2, k3_3, k3_4, k3_5, k3_6, k3_7, k3_8⟩ := HK.out.below HB3.out (by exact HLT.out)
    clear hb3 k2_0 k2_1 k2_2 k2_3 k2_4 k2_5 k2_6 k2_7 k2_8
    go_wp2_with fail
    (with_reducible refine (HRN.out _).mono ?_)
    rintro e w_4 ⟨rfl, hb4⟩
    have HB4 : Hid (Below W.heap.size W w_4) := Lib.hid (HB3.out.trans (hb4.mono HB3.out.size))
    obtain ⟨k4_0, k4_1, k4_2, k4_3, k4_4, k4_5, k4_6, k4_7, k4_8⟩ := HK.out.below HB4.out (by exact HLT.out)
    clear hb4 k3_0 k3_1 k3_2 k3_3 k3_4 k3_5 k3_6 k3_7 k3_8
    go_wp2_with fail
    go_ret
    exact ⟨rfl, HBW.out.trans (HB4.out.mono HBW.out.size)⟩
  · go_wp2_with fail
    generalize hW : World.setCell _ _ _ = W
    have HK : Hid (T9 W w2.heap.size sz sg) := Lib.hid (by rw [← hW]; exact t9_set _ _ _ _ (fun o ho => by rw [hc3 _ _ (by simp)]; rw [World.cell?_alloc_new]; simp; omega))
    have HBW : Hid (Below w.heap.size w W) := Lib.hid (by
      have hb := HB0.out.trans (HB3.out.mono HB0.out.size)
      have h1 := HB0.out.size
      have h2 := HB2.out.size
      have h3 := HB3.out.size
      rw [← hW]
      ((repeat (first | (with_reducible exact hb) | (with_reducible apply Below.setCell) | (with_reducible apply Below.alloc))) <;> first | omega | (simp; omega)))
    have HLT : Hid (w2.heap.size < W.heap.size) := Lib.hid (by rw [← hW]; have := HB3.out.size; simp; omega)
    obtain ⟨k0_0, k0_1, k0_2, k0_3, k0_4, k0_5, k0_6, k0_7, k0_8⟩ := HK.out
    clear hW hb2 hc2 hf2 hb3 hc3 hf3 hk0 hk1 hk0' hk1' hk0'' hk1''
    (with_reducible refine (HX.out _).mono ?_)
    rintro e w_1 ⟨rfl, hb1⟩
    have HB1 : Hid (Below W.heap.size W w_1) := Lib.hid ((Below.refl W.heap.size W).trans hb1)
    obtain ⟨k1_0, k1_1, k1_2, k1_3, k1_4, k1_5, k1_6, k1_7, k1_8⟩ := HK.out.below HB1.out (by exact HLT.out)
    clear hb1 k0_0 k0_1 k0_2 k0_3 k0_4 k0_5 k0_6 k0_7 k0_8
    go_wp2_with fail
    (with_reducible refine (HY.out _).mono ?_)
    rintro e w_2 ⟨rfl, hb2⟩
    have HB2 : Hid (Below W.heap.size W w_2) := Lib.hid (HB1.out.trans (hb2.mono HB1.out.size))
    obtain ⟨k2_0, k2_1, k2_2, k2_3, k2_4, k2_5, k2_6, k2_7, k2_8⟩ := HK.out.below HB2.out (by exact HLT.out)
    clear hb2 k1_0 k1_1 k1_2 k1_3 k1_4 k1_5 k1_6 k1_7 k1_8
    go_wp2_with fail
    (with_reducible refine (HBN.out _).mono ?_)
    rintro e w_3 ⟨rfl, hb3⟩
    have HB3 : Hid (Below W.heap.size W w_3) := Lib.hid (HB2.out.trans (hb3.mono HB2.out.size))
    obtain ⟨k3_0, k3_1, k3_2, k3_3, k3_4, k3_5, k3_6, k3_7, k3_8⟩ := HK.out.below HB3.out (by exact HLT.out)
    clear hb3 k2_0 k2_1 k2_2 k2_3 k2_4 k2_5 k2_6 k2_7 k2_8
    go_wp2_with fail
    (with_reducible refine (HRN.out _).mono ?_)
    rintro e w_4 ⟨rfl, hb4⟩
    have HB4 : Hid (Below W.heap.size W w_4) := Lib.hid (HB3.out.trans (hb4.mono HB3.out.size))
    obtain ⟨k4_0, k4_1, k4_2, k4_3, k4_4, k4_5, k4_6, k4_7, k4_8⟩ := HK.out.below HB4.out (by exact HLT.out)
    clear hb4 k3_0 k3_1 k3_2 k3_3 k3_4 k3_5 k3_6 k3_7 k3_8
    go_wp2_with fail
    go_ret
    exact ⟨rfl, HBW.out.trans (HB4.out.mono HBW.out.size)⟩
  · go_wp2_with fail
    generalize hW : World.setCell _ _ _ = W
    have HK : Hid (T9 W w1.heap.size sz sg) := Lib.hid (by rw [← hW]; exact t9_set _ _ _ _ (fun o ho => by rw [hc3 _ _ lt2, hc2 _ _ (by simp)]; first | (rw [World.cell?_alloc_new]; simp; omega) | (rw [show ∀ (W : World) (a : Addr), W.drew.cell? a = W.cell? a from fun _ _ => rfl, World.cell?_alloc_new]; simp; omega)))
    have HBW : Hid (Below w.heap.size w W) := Lib.hid (by
      have hb := HB0.out.trans (HB3.out.mono HB0.out.size)
      have h1 := HB0.out.size
      have h2 := HB2.out.size
      have h3 := HB3.out.size
      rw [← hW]
      ((repeat (first | (with_reducible exact hb) | (with_reducible apply Below.setCell) | (with_reducible apply Below.alloc))) <;> first | omega | (simp; omega)))
    have HLT : Hid (w1.heap.size < W.heap.size) := Lib.hid (by rw [← hW]; have := HB3.out.size; simp; omega)
    obtain ⟨k0_0, k0_1, k0_2, k0_3, k0_4, k0_5, k0_6, k0_7, k0_8⟩ := HK.out
    clear hW hb2 hc2 hf2 hb3 hc3 hf3 hk0 hk1 hk0' hk1' hk0'' hk1''
    (with_reducible refine (HX.out _).mono ?_)
    rintro e w_1 ⟨rfl, hb1⟩
    have HB1 : Hid (Below W.heap.size W w_1) := Lib.hid ((Below.refl W.heap.size W).trans hb1)
    obtain ⟨k1_0, k1_1, k1_2, k1_3, k1_4, k1_5, k1_6, k1_7, k1_8⟩ := HK.out.below HB1.out (by exact HLT.out)
    clear hb1 k0_0 k0_1 k0_2 k0_3 k0_4 k0_5 k0_6 k0_7 k0_8
    go_wp2_with fail
    (with_reducible refine (HY.out _).mono ?_)
    rintro e w_2 ⟨rfl, hb2⟩
    have HB2 : Hid (Below W.heap.size W w_2) := Lib.hid (HB1.out.trans (hb2.mono HB1.out.size))
    obtain ⟨k2_0, k2_1, k2_2, k2_3, k2_4, k2_5, k2_6, k2_7, k2_8⟩ := HK.out.below HB2.out (by exact HLT.out)
    clear hb2 k1_0 k1_1 k1_2 k1_3 k1_4 k1_5 k1_6 k1_7 k1_8
    go_wp2_with fail
    (with_reducible refine (HBN.out _).mono ?_)
    rintro e w_3 ⟨rfl, hb3⟩
    have HB3 : Hid (Below W.heap.size W w_3) := Lib.hid (HB2.out.trans (hb3.mono HB2.out.size))
    obtain ⟨k3_0, k3_1, k3_2, k3_3, k3_4, k3_5, k3_6, k3_7, k3_8⟩ := HK.out.below HB3.out (by exact HLT.out)
    clear hb3 k2_0 k2_1 k2_2 k2_3 k2_4 k2_5 k2_6 k2_7 k2_8
    go_wp2_with fail
    (with_reducible refine (HRN.out _).mono ?_)
    rintro e w_4 ⟨rfl, hb4⟩
    have HB4 : Hid (Below W.heap.size W w_4) := Lib.hid (HB3.out.trans (hb4.mono HB3.out.size))
    obtain ⟨k4_0, k4_1, k4_2, k4_3, k4_4, k4_5, k4_6, k4_7, k4_8⟩ := HK.out.below HB4.out (by exact HLT.out)
    clear hb4 k3_0 k3_1 k3_2 k3_3 k3_4 k3_5 k3_6 k3_7 k3_8
    go_wp2_with fail
    go_ret
    exact ⟨rfl, HBW.out.trans (HB4.out.mono HBW.out.size)⟩

set_option maxHeartbeats 8000000 in
theorem bins_3 (sz : Nat) (sg : Bool) (how h2 a b x y r : Int) (ok : Bool)
    (CT : ∀ w, Calls Try.prog 8 #[.int .i64 how] w (TypeIs sz sg w))
    (CO : ∀ w, Calls Try.prog 9 #[.int .i64 h2] w (StrIs ⟨#[38]⟩ w))
    (CX : ∀ w, Calls Try.prog 10 #[.agg #[.int .i64 1, .int .i64 sz, .bool sg, .bool false, .pointer none, .int .i64 0, .int .i64 0, .slice none 0 0, .pointer none], .int .i64 a] w (IntIs .i64 x w))
    (CY : ∀ w, Calls Try.prog 10 #[.agg #[.int .i64 1, .int .i64 sz, .bool sg, .bool false, .pointer none, .int .i64 0, .int .i64 0, .slice none 0 0, .pointer none], .int .i64 b] w (IntIs .i64 y w))
    (CB : ∀ w, Calls Try.prog 11 #[.string ⟨#[38]⟩, .agg #[.int .i64 1, .int .i64 sz, .bool sg, .bool false, .pointer none, .int .i64 0, .int .i64 0, .slice none 0 0, .pointer none], .int .i64 x, .int .i64 y] w (PairIs r ok w))
    (CR : ∀ w, Calls Try.prog 12 #[.string ⟨#[38]⟩, .agg #[.int .i64 1, .int .i64 sz, .bool sg, .bool false, .pointer none, .int .i64 0, .int .i64 0, .slice none 0 0, .pointer none], .int .i64 x, .int .i64 y] w (PairIs r ok w))
    (w : World) : Calls Try.prog 3 #[.agg #[.int .i64 how, .int .i64 h2], .int .i64 a, .int .i64 b] w (BoolIs true w) := by
  have HT := Lib.hid CT
  have HO := Lib.hid CO
  have HX := Lib.hid CX
  have HY := Lib.hid CY
  clear CY
  have HBN := Lib.hid CB
  have HRN := Lib.hid CR
  clear CT CO CX CB CR
  go_enter Try.func3, Try.ntmps3
  go_wp2_with fail
  refine (fit_law _).mono ?_
  rintro e w1 ⟨rfl, hb1⟩
  have hk0 : w1.cell? ⟨w.heap.size, 0, none⟩ = some (.int .i64 how) := by rw [hb1.cell (by simp)]; simp
  have hk1 : w1.cell? ⟨w.heap.size, 1, none⟩ = some (.int .i64 h2) := by rw [hb1.cell (by simp)]; simp
  have hw1 : w.heap.size < w1.heap.size := by have := hb1.size; simp at this; omega
  have HB0 := Lib.hid (((Below.refl _ _).alloc (Nat.le_refl _) _).trans (hb1.mono (by simp)))
  have HK0 := Lib.hid hk0
  have HK1 := Lib.hid hk1
  have HW1 := Lib.hid hw1
  have ne1 : ¬ w.heap.size = w1.heap.size := by omega
  have en1 : ¬ w1.heap.size = w.heap.size := by omega
  clear hb1
  go_wp2_with fail
  go_region_held3 (fun w' => w'.cell? ⟨w.heap.size, 0, none⟩ = some (.int .i64 how) ∧ w'.cell? ⟨w.heap.size, 1, none⟩ = some (.int .i64 h2)) (go_keep)
    (first
      | (go_at_call 9
         refine (HO.out _).mono ?_
         rintro e w3 ⟨rfl, hb3⟩
         obtain ⟨hc3, hf3⟩ := bcell hb3
         have hs3 := hb3.size
         (try simp [go_sem] at hs3)
         (first | (have lt3 : w2.heap.size < w3.heap.size := by omega) | skip)
         have HB3 : Hid (Below w1.heap.size w1 w3) := Lib.hid (by
           first
           | exact HB2.out.trans (hb3.mono HB2.out.size)
           | exact (HB2.out.alloc HB2.out.size _).trans (hb3.mono (by have := HB2.out.size; simp; omega)))
         have hk0'' : w3.cell? ⟨w.heap.size, 0, none⟩ = some (.int .i64 how) := by rw [HB3.out.cell (by exact HW1.out)]; exact HK0.out
         have hk1'' : w3.cell? ⟨w.heap.size, 1, none⟩ = some (.int .i64 h2) := by rw [HB3.out.cell (by exact HW1.out)]; exact HK1.out
         have hz3 : w.heap.size < w3.heap.size := by have h1 := HB3.out.size; have h2 := HW1.out; omega
         have ne3 : ¬ w.heap.size = w3.heap.size := by omega
         have en3 : ¬ w3.heap.size = w.heap.size := by omega
         skip)
      | (go_at_call 8
         refine (HT.out _).mono ?_
         rintro e w2 ⟨rfl, hb2⟩
         obtain ⟨hc2, hf2⟩ := bcell hb2
         have hs2 := hb2.size
         (try simp [go_sem] at hs2)
         (first | (have lt2 : w1.heap.size < w2.heap.size := by omega) | skip)
         rw [show tV sz sg = .agg #[.int .i64 1, .int .i64 sz, .bool sg, .bool false, .pointer none, .int .i64 0, .int .i64 0, .slice none 0 0, .pointer none] from rfl]
         have HB2 : Hid (Below w1.heap.size w1 w2) := Lib.hid (by
           first
           | exact (Below.refl _ _).drew.trans hb2
           | exact ((Below.refl _ _).drew.alloc (by simp) _).trans (hb2.mono (by simp))
           | exact ((Below.refl _ _).alloc (Nat.le_refl _) _).trans (hb2.mono (by simp)))
         have hk0' : w2.cell? ⟨w.heap.size, 0, none⟩ = some (.int .i64 how) := by rw [HB2.out.cell (by exact HW1.out)]; exact HK0.out
         have hk1' : w2.cell? ⟨w.heap.size, 1, none⟩ = some (.int .i64 h2) := by rw [HB2.out.cell (by exact HW1.out)]; exact HK1.out
         have hz2 : w.heap.size < w2.heap.size := by have h1 := HB2.out.size; have h2 := HW1.out; omega
         have ne2 : ¬ w.heap.size = w2.heap.size := by omega
         have en2 : ¬ w2.heap.size = w.heap.size := by omega
         skip))
  · go_wp2_with fail
    generalize hW : World.alloc _ _ = W
    have HK : Hid (T9 W w3.heap.size sz sg) := Lib.hid (by rw [← hW]; exact t9_alloc w3 sz sg _)
    have HBW : Hid (Below w.heap.size w W) := Lib.hid (by
      have hb := HB0.out.trans (HB3.out.mono HB0.out.size)
      have h1 := HB0.out.size
      have h2 := HB2.out.size
      have h3 := HB3.out.size
      rw [← hW]
      ((repeat (first | (with_reducible exact hb) | (with_reducible apply Below.setCell) | (with_reducible apply Below.alloc))) <;> first | omega | (simp; omega)))
    have HLT : Hid (w3.heap.size < W.heap.size) := Lib.hid (by rw [← hW]; simp)
    obtain ⟨k0_0, k0_1, k0_2, k0_3, k0_4, k0_5, k0_6, k0_7, k0_8⟩ := HK.out
    clear hW hb2 hc2 hf2 hb3 hc3 hf3 hk0 hk1 hk0' hk1' hk0'' hk1''
    (with_reducible refine (HX.out _).mono ?_)
    rintro e w_1 ⟨rfl, hb1⟩
    have HB1 : Hid (Below W.heap.size W w_1) := Lib.hid ((Below.refl W.heap.size W).trans hb1)
    obtain ⟨k1_0, k1_1, k1_2, k1_3, k1_4, k1_5, k1_6, k1_7, k1_8⟩ := HK.out.below HB1.out (by exact HLT.out)
    clear hb1 k0_0 k0_1 k0_2 k0_3 k0_4 k0_5 k0_6 k0_7 k0_8
    go_wp2_with fail
    (with_reducible refine (HY.out _).mono ?_)
    rintro e w_2 ⟨rfl, hb2⟩
    have HB2 : Hid (Below W.heap.size W w_2) := Lib.hid (HB1.out.trans (hb2.mono HB1.out.size))
    obtain ⟨k2_0, k2_1, k2_2, k2_3, k2_4, k2_5, k2_6, k2_7, k2_8⟩ := HK.out.below HB2.out (by exact HLT.out)
    clear hb2 k1_0 k1_1 k1_2 k1_3 k1_4 k1_5 k1_6 k1_7 k1_8
    go_wp2_with fail
    (with_reducible refine (HBN.out _).mono ?_)
    rintro e w_3 ⟨rfl, hb3⟩
    have HB3 : Hid (Below W.heap.size W w_3) := Lib.hid (HB2.out.trans (hb3.mono HB2.out.size))
    obtain ⟨k3_0, k3_1, k3_2, k3_3, k3_4, k3_5, k3_6, k3_7, k3_8⟩ := HK.out.below HB3.out (by exact HLT.out)
    clear hb3 k2_0 k2_1 k2_2 k2_3 k2_4 k2_5 k2_6 k2_7 k2_8
    go_wp2_with fail
    (with_reducible refine (HRN.out _).mono ?_)
    rintro e w_4 ⟨rfl, hb4⟩
    have HB4 : Hid (Below W.heap.size W w_4) := Lib.hid (HB3.out.trans (hb4.mono HB3.out.size))
    obtain ⟨k4_0, k4_1, k4_2, k4_3, k4_4, k4_5, k4_6, k4_7, k4_8⟩ := HK.out.below HB4.out (by exact HLT.out)
    clear hb4 k3_0 k3_1 k3_2 k3_3 k3_4 k3_5 k3_6 k3_7 k3_8
    go_wp2_with fail
    go_ret
    exact ⟨rfl, HBW.out.trans (HB4.out.mono HBW.out.size)⟩
  · go_wp2_with fail
    generalize hW : World.setCell _ _ _ = W
    have HK : Hid (T9 W w2.heap.size sz sg) := Lib.hid (by rw [← hW]; exact t9_set _ _ _ _ (fun o ho => by rw [hc3 _ _ (by simp)]; rw [World.cell?_alloc_new]; simp; omega))
    have HBW : Hid (Below w.heap.size w W) := Lib.hid (by
      have hb := HB0.out.trans (HB3.out.mono HB0.out.size)
      have h1 := HB0.out.size
      have h2 := HB2.out.size
      have h3 := HB3.out.size
      rw [← hW]
      ((repeat (first | (with_reducible exact hb) | (with_reducible apply Below.setCell) | (with_reducible apply Below.alloc))) <;> first | omega | (simp; omega)))
    have HLT : Hid (w2.heap.size < W.heap.size) := Lib.hid (by rw [← hW]; have := HB3.out.size; simp; omega)
    obtain ⟨k0_0, k0_1, k0_2, k0_3, k0_4, k0_5, k0_6, k0_7, k0_8⟩ := HK.out
    clear hW hb2 hc2 hf2 hb3 hc3 hf3 hk0 hk1 hk0' hk1' hk0'' hk1''
    (with_reducible refine (HX.out _).mono ?_)
    rintro e w_1 ⟨rfl, hb1⟩
    have HB1 : Hid (Below W.heap.size W w_1) := Lib.hid ((Below.refl W.heap.size W).trans hb1)
    obtain ⟨k1_0, k1_1, k1_2, k1_3, k1_4, k1_5, k1_6, k1_7, k1_8⟩ := HK.out.below HB1.out (by exact HLT.out)
    clear hb1 k0_0 k0_1 k0_2 k0_3 k0_4 k0_5 k0_6 k0_7 k0_8
    go_wp2_with fail
    (with_reducible refine (HY.out _).mono ?_)
    rintro e w_2 ⟨rfl, hb2⟩
    have HB2 : Hid (Below W.heap.size W w_2) := Lib.hid (HB1.out.trans (hb2.mono HB1.out.size))
    obtain ⟨k2_0, k2_1, k2_2, k2_3, k2_4, k2_5, k2_6, k2_7, k2_8⟩ := HK.out.below HB2.out (by exact HLT.out)
    clear hb2 k1_0 k1_1 k1_2 k1_3 k1_4 k1_5 k1_6 k1_7 k1_8
    go_wp2_with fail
    (with_reducible refine (HBN.out _).mono ?_)
    rintro e w_3 ⟨rfl, hb3⟩
    have HB3 : Hid (Below W.heap.size W w_3) := Lib.hid (HB2.out.trans (hb3.mono HB2.out.size))
    obtain ⟨k3_0, k3_1, k3_2, k3_3, k3_4, k3_5, k3_6, k3_7, k3_8⟩ := HK.out.below HB3.out (by exact HLT.out)
    clear hb3 k2_0 k2_1 k2_2 k2_3 k2_4 k2_5 k2_6 k2_7 k2_8
    go_wp2_with fail
    (with_reducible refine (HRN.out _).mono ?_)
    rintro e w_4 ⟨rfl, hb4⟩
    have HB4 : Hid (Below W.heap.size W w_4) := Lib.hid (HB3.out.trans (hb4.mono HB3.out.size))
    obtain ⟨k4_0, k4_1, k4_2, k4_3, k4_4, k4_5, k4_6, k4_7, k4_8⟩ := HK.out.below HB4.out (by exact HLT.out)
    clear hb4 k3_0 k3_1 k3_2 k3_3 k3_4 k3_5 k3_6 k3_7 k3_8
    go_wp2_with fail
    go_ret
    exact ⟨rfl, HBW.out.trans (HB4.out.mono HBW.out.size)⟩
  · go_wp2_with fail
    generalize hW : World.setCell _ _ _ = W
    have HK : Hid (T9 W w1.heap.size sz sg) := Lib.hid (by rw [← hW]; exact t9_set _ _ _ _ (fun o ho => by rw [hc3 _ _ lt2, hc2 _ _ (by simp)]; first | (rw [World.cell?_alloc_new]; simp; omega) | (rw [show ∀ (W : World) (a : Addr), W.drew.cell? a = W.cell? a from fun _ _ => rfl, World.cell?_alloc_new]; simp; omega)))
    have HBW : Hid (Below w.heap.size w W) := Lib.hid (by
      have hb := HB0.out.trans (HB3.out.mono HB0.out.size)
      have h1 := HB0.out.size
      have h2 := HB2.out.size
      have h3 := HB3.out.size
      rw [← hW]
      ((repeat (first | (with_reducible exact hb) | (with_reducible apply Below.setCell) | (with_reducible apply Below.alloc))) <;> first | omega | (simp; omega)))
    have HLT : Hid (w1.heap.size < W.heap.size) := Lib.hid (by rw [← hW]; have := HB3.out.size; simp; omega)
    obtain ⟨k0_0, k0_1, k0_2, k0_3, k0_4, k0_5, k0_6, k0_7, k0_8⟩ := HK.out
    clear hW hb2 hc2 hf2 hb3 hc3 hf3 hk0 hk1 hk0' hk1' hk0'' hk1''
    (with_reducible refine (HX.out _).mono ?_)
    rintro e w_1 ⟨rfl, hb1⟩
    have HB1 : Hid (Below W.heap.size W w_1) := Lib.hid ((Below.refl W.heap.size W).trans hb1)
    obtain ⟨k1_0, k1_1, k1_2, k1_3, k1_4, k1_5, k1_6, k1_7, k1_8⟩ := HK.out.below HB1.out (by exact HLT.out)
    clear hb1 k0_0 k0_1 k0_2 k0_3 k0_4 k0_5 k0_6 k0_7 k0_8
    go_wp2_with fail
    (with_reducible refine (HY.out _).mono ?_)
    rintro e w_2 ⟨rfl, hb2⟩
    have HB2 : Hid (Below W.heap.size W w_2) := Lib.hid (HB1.out.trans (hb2.mono HB1.out.size))
    obtain ⟨k2_0, k2_1, k2_2, k2_3, k2_4, k2_5, k2_6, k2_7, k2_8⟩ := HK.out.below HB2.out (by exact HLT.out)
    clear hb2 k1_0 k1_1 k1_2 k1_3 k1_4 k1_5 k1_6 k1_7 k1_8
    go_wp2_with fail
    (with_reducible refine (HBN.out _).mono ?_)
    rintro e w_3 ⟨rfl, hb3⟩
    have HB3 : Hid (Below W.heap.size W w_3) := Lib.hid (HB2.out.trans (hb3.mono HB2.out.size))
    obtain ⟨k3_0, k3_1, k3_2, k3_3, k3_4, k3_5, k3_6, k3_7, k3_8⟩ := HK.out.below HB3.out (by exact HLT.out)
    clear hb3 k2_0 k2_1 k2_2 k2_3 k2_4 k2_5 k2_6 k2_7 k2_8
    go_wp2_with fail
    (with_reducible refine (HRN.out _).mono ?_)
    rintro e w_4 ⟨rfl, hb4⟩
    have HB4 : Hid (Below W.heap.size W w_4) := Lib.hid (HB3.out.trans (hb4.mono HB3.out.size))
    obtain ⟨k4_0, k4_1, k4_2, k4_3, k4_4, k4_5, k4_6, k4_7, k4_8⟩ := HK.out.below HB4.out (by exact HLT.out)
    clear hb4 k3_0 k3_1 k3_2 k3_3 k3_4 k3_5 k3_6 k3_7 k3_8
    go_wp2_with fail
    go_ret
    exact ⟨rfl, HBW.out.trans (HB4.out.mono HBW.out.size)⟩

set_option maxHeartbeats 8000000 in
theorem bins_4 (sz : Nat) (sg : Bool) (how h2 a b x y r : Int) (ok : Bool)
    (CT : ∀ w, Calls Try.prog 8 #[.int .i64 how] w (TypeIs sz sg w))
    (CO : ∀ w, Calls Try.prog 9 #[.int .i64 h2] w (StrIs ⟨#[124]⟩ w))
    (CX : ∀ w, Calls Try.prog 10 #[.agg #[.int .i64 1, .int .i64 sz, .bool sg, .bool false, .pointer none, .int .i64 0, .int .i64 0, .slice none 0 0, .pointer none], .int .i64 a] w (IntIs .i64 x w))
    (CY : ∀ w, Calls Try.prog 10 #[.agg #[.int .i64 1, .int .i64 sz, .bool sg, .bool false, .pointer none, .int .i64 0, .int .i64 0, .slice none 0 0, .pointer none], .int .i64 b] w (IntIs .i64 y w))
    (CB : ∀ w, Calls Try.prog 11 #[.string ⟨#[124]⟩, .agg #[.int .i64 1, .int .i64 sz, .bool sg, .bool false, .pointer none, .int .i64 0, .int .i64 0, .slice none 0 0, .pointer none], .int .i64 x, .int .i64 y] w (PairIs r ok w))
    (CR : ∀ w, Calls Try.prog 12 #[.string ⟨#[124]⟩, .agg #[.int .i64 1, .int .i64 sz, .bool sg, .bool false, .pointer none, .int .i64 0, .int .i64 0, .slice none 0 0, .pointer none], .int .i64 x, .int .i64 y] w (PairIs r ok w))
    (w : World) : Calls Try.prog 3 #[.agg #[.int .i64 how, .int .i64 h2], .int .i64 a, .int .i64 b] w (BoolIs true w) := by
  have HT := Lib.hid CT
  have HO := Lib.hid CO
  have HX := Lib.hid CX
  have HY := Lib.hid CY
  clear CY
  have HBN := Lib.hid CB
  have HRN := Lib.hid CR
  clear CT CO CX CB CR
  go_enter Try.func3, Try.ntmps3
  go_wp2_with fail
  refine (fit_law _).mono ?_
  rintro e w1 ⟨rfl, hb1⟩
  have hk0 : w1.cell? ⟨w.heap.size, 0, none⟩ = some (.int .i64 how) := by rw [hb1.cell (by simp)]; simp
  have hk1 : w1.cell? ⟨w.heap.size, 1, none⟩ = some (.int .i64 h2) := by rw [hb1.cell (by simp)]; simp
  have hw1 : w.heap.size < w1.heap.size := by have := hb1.size; simp at this; omega
  have HB0 := Lib.hid (((Below.refl _ _).alloc (Nat.le_refl _) _).trans (hb1.mono (by simp)))
  have HK0 := Lib.hid hk0
  have HK1 := Lib.hid hk1
  have HW1 := Lib.hid hw1
  have ne1 : ¬ w.heap.size = w1.heap.size := by omega
  have en1 : ¬ w1.heap.size = w.heap.size := by omega
  clear hb1
  go_wp2_with fail
  go_region_held3 (fun w' => w'.cell? ⟨w.heap.size, 0, none⟩ = some (.int .i64 how) ∧ w'.cell? ⟨w.heap.size, 1, none⟩ = some (.int .i64 h2)) (go_keep)
    (first
      | (go_at_call 9
         refine (HO.out _).mono ?_
         rintro e w3 ⟨rfl, hb3⟩
         obtain ⟨hc3, hf3⟩ := bcell hb3
         have hs3 := hb3.size
         (try simp [go_sem] at hs3)
         (first | (have lt3 : w2.heap.size < w3.heap.size := by omega) | skip)
         have HB3 : Hid (Below w1.heap.size w1 w3) := Lib.hid (by
           first
           | exact HB2.out.trans (hb3.mono HB2.out.size)
           | exact (HB2.out.alloc HB2.out.size _).trans (hb3.mono (by have := HB2.out.size; simp; omega)))
         have hk0'' : w3.cell? ⟨w.heap.size, 0, none⟩ = some (.int .i64 how) := by rw [HB3.out.cell (by exact HW1.out)]; exact HK0.out
         have hk1'' : w3.cell? ⟨w.heap.size, 1, none⟩ = some (.int .i64 h2) := by rw [HB3.out.cell (by exact HW1.out)]; exact HK1.out
         have hz3 : w.heap.size < w3.heap.size := by have h1 := HB3.out.size; have h2 := HW1.out; omega
         have ne3 : ¬ w.heap.size = w3.heap.size := by omega
         have en3 : ¬ w3.heap.size = w.heap.size := by omega
         skip)
      | (go_at_call 8
         refine (HT.out _).mono ?_
         rintro e w2 ⟨rfl, hb2⟩
         obtain ⟨hc2, hf2⟩ := bcell hb2
         have hs2 := hb2.size
         (try simp [go_sem] at hs2)
         (first | (have lt2 : w1.heap.size < w2.heap.size := by omega) | skip)
         rw [show tV sz sg = .agg #[.int .i64 1, .int .i64 sz, .bool sg, .bool false, .pointer none, .int .i64 0, .int .i64 0, .slice none 0 0, .pointer none] from rfl]
         have HB2 : Hid (Below w1.heap.size w1 w2) := Lib.hid (by
           first
           | exact (Below.refl _ _).drew.trans hb2
           | exact ((Below.refl _ _).drew.alloc (by simp) _).trans (hb2.mono (by simp))
           | exact ((Below.refl _ _).alloc (Nat.le_refl _) _).trans (hb2.mono (by simp)))
         have hk0' : w2.cell? ⟨w.heap.size, 0, none⟩ = some (.int .i64 how) := by rw [HB2.out.cell (by exact HW1.out)]; exact HK0.out
         have hk1' : w2.cell? ⟨w.heap.size, 1, none⟩ = some (.int .i64 h2) := by rw [HB2.out.cell (by exact HW1.out)]; exact HK1.out
         have hz2 : w.heap.size < w2.heap.size := by have h1 := HB2.out.size; have h2 := HW1.out; omega
         have ne2 : ¬ w.heap.size = w2.heap.size := by omega
         have en2 : ¬ w2.heap.size = w.heap.size := by omega
         skip))
  · go_wp2_with fail
    generalize hW : World.alloc _ _ = W
    have HK : Hid (T9 W w3.heap.size sz sg) := Lib.hid (by rw [← hW]; exact t9_alloc w3 sz sg _)
    have HBW : Hid (Below w.heap.size w W) := Lib.hid (by
      have hb := HB0.out.trans (HB3.out.mono HB0.out.size)
      have h1 := HB0.out.size
      have h2 := HB2.out.size
      have h3 := HB3.out.size
      rw [← hW]
      ((repeat (first | (with_reducible exact hb) | (with_reducible apply Below.setCell) | (with_reducible apply Below.alloc))) <;> first | omega | (simp; omega)))
    have HLT : Hid (w3.heap.size < W.heap.size) := Lib.hid (by rw [← hW]; simp)
    obtain ⟨k0_0, k0_1, k0_2, k0_3, k0_4, k0_5, k0_6, k0_7, k0_8⟩ := HK.out
    clear hW hb2 hc2 hf2 hb3 hc3 hf3 hk0 hk1 hk0' hk1' hk0'' hk1''
    (with_reducible refine (HX.out _).mono ?_)
    rintro e w_1 ⟨rfl, hb1⟩
    have HB1 : Hid (Below W.heap.size W w_1) := Lib.hid ((Below.refl W.heap.size W).trans hb1)
    obtain ⟨k1_0, k1_1, k1_2, k1_3, k1_4, k1_5, k1_6, k1_7, k1_8⟩ := HK.out.below HB1.out (by exact HLT.out)
    clear hb1 k0_0 k0_1 k0_2 k0_3 k0_4 k0_5 k0_6 k0_7 k0_8
    go_wp2_with fail
    (with_reducible refine (HY.out _).mono ?_)
    rintro e w_2 ⟨rfl, hb2⟩
    have HB2 : Hid (Below W.heap.size W w_2) := Lib.hid (HB1.out.trans (hb2.mono HB1.out.size))
    obtain ⟨k2_0, k2_1, k2_2, k2_3, k2_4, k2_5, k2_6, k2_7, k2_8⟩ := HK.out.below HB2.out (by exact HLT.out)
    clear hb2 k1_0 k1_1 k1_2 k1_3 k1_4 k1_5 k1_6 k1_7 k1_8
    go_wp2_with fail
    (with_reducible refine (HBN.out _).mono ?_)
    rintro e w_3 ⟨rfl, hb3⟩
    have HB3 : Hid (Below W.heap.size W w_3) := Lib.hid (HB2.out.trans (hb3.mono HB2.out.size))
    obtain ⟨k3_0, k3_1, k3_2, k3_3, k3_4, k3_5, k3_6, k3_7, k3_8⟩ := HK.out.below HB3.out (by exact HLT.out)
    clear hb3 k2_0 k2_1 k2_2 k2_3 k2_4 k2_5 k2_6 k2_7 k2_8
    go_wp2_with fail
    (with_reducible refine (HRN.out _).mono ?_)
    rintro e w_4 ⟨rfl, hb4⟩
    have HB4 : Hid (Below W.heap.size W w_4) := Lib.hid (HB3.out.trans (hb4.mono HB3.out.size))
    obtain ⟨k4_0, k4_1, k4_2, k4_3, k4_4, k4_5, k4_6, k4_7, k4_8⟩ := HK.out.below HB4.out (by exact HLT.out)
    clear hb4 k3_0 k3_1 k3_2 k3_3 k3_4 k3_5 k3_6 k3_7 k3_8
    go_wp2_with fail
    go_ret
    exact ⟨rfl, HBW.out.trans (HB4.out.mono HBW.out.size)⟩
  · go_wp2_with fail
    generalize hW : World.setCell _ _ _ = W
    have HK : Hid (T9 W w2.heap.size sz sg) := Lib.hid (by rw [← hW]; exact t9_set _ _ _ _ (fun o ho => by rw [hc3 _ _ (by simp)]; rw [World.cell?_alloc_new]; simp; omega))
    have HBW : Hid (Below w.heap.size w W) := Lib.hid (by
      have hb := HB0.out.trans (HB3.out.mono HB0.out.size)
      have h1 := HB0.out.size
      have h2 := HB2.out.size
      have h3 := HB3.out.size
      rw [← hW]
      ((repeat (first | (with_reducible exact hb) | (with_reducible apply Below.setCell) | (with_reducible apply Below.alloc))) <;> first | omega | (simp; omega)))
    have HLT : Hid (w2.heap.size < W.heap.size) := Lib.hid (by rw [← hW]; have := HB3.out.size; simp; omega)
    obtain ⟨k0_0, k0_1, k0_2, k0_3, k0_4, k0_5, k0_6, k0_7, k0_8⟩ := HK.out
    clear hW hb2 hc2 hf2 hb3 hc3 hf3 hk0 hk1 hk0' hk1' hk0'' hk1''
    (with_reducible refine (HX.out _).mono ?_)
    rintro e w_1 ⟨rfl, hb1⟩
    have HB1 : Hid (Below W.heap.size W w_1) := Lib.hid ((Below.refl W.heap.size W).trans hb1)
    obtain ⟨k1_0, k1_1, k1_2, k1_3, k1_4, k1_5, k1_6, k1_7, k1_8⟩ := HK.out.below HB1.out (by exact HLT.out)
    clear hb1 k0_0 k0_1 k0_2 k0_3 k0_4 k0_5 k0_6 k0_7 k0_8
    go_wp2_with fail
    (with_reducible refine (HY.out _).mono ?_)
    rintro e w_2 ⟨rfl, hb2⟩
    have HB2 : Hid (Below W.heap.size W w_2) := Lib.hid (HB1.out.trans (hb2.mono HB1.out.size))
    obtain ⟨k2_0, k2_1, k2_2, k2_3, k2_4, k2_5, k2_6, k2_7, k2_8⟩ := HK.out.below HB2.out (by exact HLT.out)
    clear hb2 k1_0 k1_1 k1_2 k1_3 k1_4 k1_5 k1_6 k1_7 k1_8
    go_wp2_with fail
    (with_reducible refine (HBN.out _).mono ?_)
    rintro e w_3 ⟨rfl, hb3⟩
    have HB3 : Hid (Below W.heap.size W w_3) := Lib.hid (HB2.out.trans (hb3.mono HB2.out.size))
    obtain ⟨k3_0, k3_1, k3_2, k3_3, k3_4, k3_5, k3_6, k3_7, k3_8⟩ := HK.out.below HB3.out (by exact HLT.out)
    clear hb3 k2_0 k2_1 k2_2 k2_3 k2_4 k2_5 k2_6 k2_7 k2_8
    go_wp2_with fail
    (with_reducible refine (HRN.out _).mono ?_)
    rintro e w_4 ⟨rfl, hb4⟩
    have HB4 : Hid (Below W.heap.size W w_4) := Lib.hid (HB3.out.trans (hb4.mono HB3.out.size))
    obtain ⟨k4_0, k4_1, k4_2, k4_3, k4_4, k4_5, k4_6, k4_7, k4_8⟩ := HK.out.below HB4.out (by exact HLT.out)
    clear hb4 k3_0 k3_1 k3_2 k3_3 k3_4 k3_5 k3_6 k3_7 k3_8
    go_wp2_with fail
    go_ret
    exact ⟨rfl, HBW.out.trans (HB4.out.mono HBW.out.size)⟩
  · go_wp2_with fail
    generalize hW : World.setCell _ _ _ = W
    have HK : Hid (T9 W w1.heap.size sz sg) := Lib.hid (by rw [← hW]; exact t9_set _ _ _ _ (fun o ho => by rw [hc3 _ _ lt2, hc2 _ _ (by simp)]; first | (rw [World.cell?_alloc_new]; simp; omega) | (rw [show ∀ (W : World) (a : Addr), W.drew.cell? a = W.cell? a from fun _ _ => rfl, World.cell?_alloc_new]; simp; omega)))
    have HBW : Hid (Below w.heap.size w W) := Lib.hid (by
      have hb := HB0.out.trans (HB3.out.mono HB0.out.size)
      have h1 := HB0.out.size
      have h2 := HB2.out.size
      have h3 := HB3.out.size
      rw [← hW]
      ((repeat (first | (with_reducible exact hb) | (with_reducible apply Below.setCell) | (with_reducible apply Below.alloc))) <;> first | omega | (simp; omega)))
    have HLT : Hid (w1.heap.size < W.heap.size) := Lib.hid (by rw [← hW]; have := HB3.out.size; simp; omega)
    obtain ⟨k0_0, k0_1, k0_2, k0_3, k0_4, k0_5, k0_6, k0_7, k0_8⟩ := HK.out
    clear hW hb2 hc2 hf2 hb3 hc3 hf3 hk0 hk1 hk0' hk1' hk0'' hk1''
    (with_reducible refine (HX.out _).mono ?_)
    rintro e w_1 ⟨rfl, hb1⟩
    have HB1 : Hid (Below W.heap.size W w_1) := Lib.hid ((Below.refl W.heap.size W).trans hb1)
    obtain ⟨k1_0, k1_1, k1_2, k1_3, k1_4, k1_5, k1_6, k1_7, k1_8⟩ := HK.out.below HB1.out (by exact HLT.out)
    clear hb1 k0_0 k0_1 k0_2 k0_3 k0_4 k0_5 k0_6 k0_7 k0_8
    go_wp2_with fail
    (with_reducible refine (HY.out _).mono ?_)
    rintro e w_2 ⟨rfl, hb2⟩
    have HB2 : Hid (Below W.heap.size W w_2) := Lib.hid (HB1.out.trans (hb2.mono HB1.out.size))
    obtain ⟨k2_0, k2_1, k2_2, k2_3, k2_4, k2_5, k2_6, k2_7, k2_8⟩ := HK.out.below HB2.out (by exact HLT.out)
    clear hb2 k1_0 k1_1 k1_2 k1_3 k1_4 k1_5 k1_6 k1_7 k1_8
    go_wp2_with fail
    (with_reducible refine (HBN.out _).mono ?_)
    rintro e w_3 ⟨rfl, hb3⟩
    have HB3 : Hid (Below W.heap.size W w_3) := Lib.hid (HB2.out.trans (hb3.mono HB2.out.size))
    obtain ⟨k3_0, k3_1, k3_2, k3_3, k3_4, k3_5, k3_6, k3_7, k3_8⟩ := HK.out.below HB3.out (by exact HLT.out)
    clear hb3 k2_0 k2_1 k2_2 k2_3 k2_4 k2_5 k2_6 k2_7 k2_8
    go_wp2_with fail
    (with_reducible refine (HRN.out _).mono ?_)
    rintro e w_4 ⟨rfl, hb4⟩
    have HB4 : Hid (Below W.heap.size W w_4) := Lib.hid (HB3.out.trans (hb4.mono HB3.out.size))
    obtain ⟨k4_0, k4_1, k4_2, k4_3, k4_4, k4_5, k4_6, k4_7, k4_8⟩ := HK.out.below HB4.out (by exact HLT.out)
    clear hb4 k3_0 k3_1 k3_2 k3_3 k3_4 k3_5 k3_6 k3_7 k3_8
    go_wp2_with fail
    go_ret
    exact ⟨rfl, HBW.out.trans (HB4.out.mono HBW.out.size)⟩

set_option maxHeartbeats 8000000 in
theorem bins_5 (sz : Nat) (sg : Bool) (how h2 a b x y r : Int) (ok : Bool)
    (CT : ∀ w, Calls Try.prog 8 #[.int .i64 how] w (TypeIs sz sg w))
    (CO : ∀ w, Calls Try.prog 9 #[.int .i64 h2] w (StrIs ⟨#[94]⟩ w))
    (CX : ∀ w, Calls Try.prog 10 #[.agg #[.int .i64 1, .int .i64 sz, .bool sg, .bool false, .pointer none, .int .i64 0, .int .i64 0, .slice none 0 0, .pointer none], .int .i64 a] w (IntIs .i64 x w))
    (CY : ∀ w, Calls Try.prog 10 #[.agg #[.int .i64 1, .int .i64 sz, .bool sg, .bool false, .pointer none, .int .i64 0, .int .i64 0, .slice none 0 0, .pointer none], .int .i64 b] w (IntIs .i64 y w))
    (CB : ∀ w, Calls Try.prog 11 #[.string ⟨#[94]⟩, .agg #[.int .i64 1, .int .i64 sz, .bool sg, .bool false, .pointer none, .int .i64 0, .int .i64 0, .slice none 0 0, .pointer none], .int .i64 x, .int .i64 y] w (PairIs r ok w))
    (CR : ∀ w, Calls Try.prog 12 #[.string ⟨#[94]⟩, .agg #[.int .i64 1, .int .i64 sz, .bool sg, .bool false, .pointer none, .int .i64 0, .int .i64 0, .slice none 0 0, .pointer none], .int .i64 x, .int .i64 y] w (PairIs r ok w))
    (w : World) : Calls Try.prog 3 #[.agg #[.int .i64 how, .int .i64 h2], .int .i64 a, .int .i64 b] w (BoolIs true w) := by
  have HT := Lib.hid CT
  have HO := Lib.hid CO
  have HX := Lib.hid CX
  have HY := Lib.hid CY
  clear CY
  have HBN := Lib.hid CB
  have HRN := Lib.hid CR
  clear CT CO CX CB CR
  go_enter Try.func3, Try.ntmps3
  go_wp2_with fail
  refine (fit_law _).mono ?_
  rintro e w1 ⟨rfl, hb1⟩
  have hk0 : w1.cell? ⟨w.heap.size, 0, none⟩ = some (.int .i64 how) := by rw [hb1.cell (by simp)]; simp
  have hk1 : w1.cell? ⟨w.heap.size, 1, none⟩ = some (.int .i64 h2) := by rw [hb1.cell (by simp)]; simp
  have hw1 : w.heap.size < w1.heap.size := by have := hb1.size; simp at this; omega
  have HB0 := Lib.hid (((Below.refl _ _).alloc (Nat.le_refl _) _).trans (hb1.mono (by simp)))
  have HK0 := Lib.hid hk0
  have HK1 := Lib.hid hk1
  have HW1 := Lib.hid hw1
  have ne1 : ¬ w.heap.size = w1.heap.size := by omega
  have en1 : ¬ w1.heap.size = w.heap.size := by omega
  clear hb1
  go_wp2_with fail
  go_region_held3 (fun w' => w'.cell? ⟨w.heap.size, 0, none⟩ = some (.int .i64 how) ∧ w'.cell? ⟨w.heap.size, 1, none⟩ = some (.int .i64 h2)) (go_keep)
    (first
      | (go_at_call 9
         refine (HO.out _).mono ?_
         rintro e w3 ⟨rfl, hb3⟩
         obtain ⟨hc3, hf3⟩ := bcell hb3
         have hs3 := hb3.size
         (try simp [go_sem] at hs3)
         (first | (have lt3 : w2.heap.size < w3.heap.size := by omega) | skip)
         have HB3 : Hid (Below w1.heap.size w1 w3) := Lib.hid (by
           first
           | exact HB2.out.trans (hb3.mono HB2.out.size)
           | exact (HB2.out.alloc HB2.out.size _).trans (hb3.mono (by have := HB2.out.size; simp; omega)))
         have hk0'' : w3.cell? ⟨w.heap.size, 0, none⟩ = some (.int .i64 how) := by rw [HB3.out.cell (by exact HW1.out)]; exact HK0.out
         have hk1'' : w3.cell? ⟨w.heap.size, 1, none⟩ = some (.int .i64 h2) := by rw [HB3.out.cell (by exact HW1.out)]; exact HK1.out
         have hz3 : w.heap.size < w3.heap.size := by have h1 := HB3.out.size; have h2 := HW1.out; omega
         have ne3 : ¬ w.heap.size = w3.heap.size := by omega
         have en3 : ¬ w3.heap.size = w.heap.size := by omega
         skip)
      | (go_at_call 8
         refine (HT.out _).mono ?_
         rintro e w2 ⟨rfl, hb2⟩
         obtain ⟨hc2, hf2⟩ := bcell hb2
         have hs2 := hb2.size
         (try simp [go_sem] at hs2)
         (first | (have lt2 : w1.heap.size < w2.heap.size := by omega) | skip)
         rw [show tV sz sg = .agg #[.int .i64 1, .int .i64 sz, .bool sg, .bool false, .pointer none, .int .i64 0, .int .i64 0, .slice none 0 0, .pointer none] from rfl]
         have HB2 : Hid (Below w1.heap.size w1 w2) := Lib.hid (by
           first
           | exact (Below.refl _ _).drew.trans hb2
           | exact ((Below.refl _ _).drew.alloc (by simp) _).trans (hb2.mono (by simp))
           | exact ((Below.refl _ _).alloc (Nat.le_refl _) _).trans (hb2.mono (by simp)))
         have hk0' : w2.cell? ⟨w.heap.size, 0, none⟩ = some (.int .i64 how) := by rw [HB2.out.cell (by exact HW1.out)]; exact HK0.out
         have hk1' : w2.cell? ⟨w.heap.size, 1, none⟩ = some (.int .i64 h2) := by rw [HB2.out.cell (by exact HW1.out)]; exact HK1.out
         have hz2 : w.heap.size < w2.heap.size := by have h1 := HB2.out.size; have h2 := HW1.out; omega
         have ne2 : ¬ w.heap.size = w2.heap.size := by omega
         have en2 : ¬ w2.heap.size = w.heap.size := by omega
         skip))
  · go_wp2_with fail
    generalize hW : World.alloc _ _ = W
    have HK : Hid (T9 W w3.heap.size sz sg) := Lib.hid (by rw [← hW]; exact t9_alloc w3 sz sg _)
    have HBW : Hid (Below w.heap.size w W) := Lib.hid (by
      have hb := HB0.out.trans (HB3.out.mono HB0.out.size)
      have h1 := HB0.out.size
      have h2 := HB2.out.size
      have h3 := HB3.out.size
      rw [← hW]
      ((repeat (first | (with_reducible exact hb) | (with_reducible apply Below.setCell) | (with_reducible apply Below.alloc))) <;> first | omega | (simp; omega)))
    have HLT : Hid (w3.heap.size < W.heap.size) := Lib.hid (by rw [← hW]; simp)
    obtain ⟨k0_0, k0_1, k0_2, k0_3, k0_4, k0_5, k0_6, k0_7, k0_8⟩ := HK.out
    clear hW hb2 hc2 hf2 hb3 hc3 hf3 hk0 hk1 hk0' hk1' hk0'' hk1''
    (with_reducible refine (HX.out _).mono ?_)
    rintro e w_1 ⟨rfl, hb1⟩
    have HB1 : Hid (Below W.heap.size W w_1) := Lib.hid ((Below.refl W.heap.size W).trans hb1)
    obtain ⟨k1_0, k1_1, k1_2, k1_3, k1_4, k1_5, k1_6, k1_7, k1_8⟩ := HK.out.below HB1.out (by exact HLT.out)
    clear hb1 k0_0 k0_1 k0_2 k0_3 k0_4 k0_5 k0_6 k0_7 k0_8
    go_wp2_with fail
    (with_reducible refine (HY.out _).mono ?_)
    rintro e w_2 ⟨rfl, hb2⟩
    have HB2 : Hid (Below W.heap.size W w_2) := Lib.hid (HB1.out.trans (hb2.mono HB1.out.size))
    obtain ⟨k2_0, k2_1, k2_2, k2_3, k2_4, k2_5, k2_6, k2_7, k2_8⟩ := HK.out.below HB2.out (by exact HLT.out)
    clear hb2 k1_0 k1_1 k1_2 k1_3 k1_4 k1_5 k1_6 k1_7 k1_8
    go_wp2_with fail
    (with_reducible refine (HBN.out _).mono ?_)
    rintro e w_3 ⟨rfl, hb3⟩
    have HB3 : Hid (Below W.heap.size W w_3) := Lib.hid (HB2.out.trans (hb3.mono HB2.out.size))
    obtain ⟨k3_0, k3_1, k3_2, k3_3, k3_4, k3_5, k3_6, k3_7, k3_8⟩ := HK.out.below HB3.out (by exact HLT.out)
    clear hb3 k2_0 k2_1 k2_2 k2_3 k2_4 k2_5 k2_6 k2_7 k2_8
    go_wp2_with fail
    (with_reducible refine (HRN.out _).mono ?_)
    rintro e w_4 ⟨rfl, hb4⟩
    have HB4 : Hid (Below W.heap.size W w_4) := Lib.hid (HB3.out.trans (hb4.mono HB3.out.size))
    obtain ⟨k4_0, k4_1, k4_2, k4_3, k4_4, k4_5, k4_6, k4_7, k4_8⟩ := HK.out.below HB4.out (by exact HLT.out)
    clear hb4 k3_0 k3_1 k3_2 k3_3 k3_4 k3_5 k3_6 k3_7 k3_8
    go_wp2_with fail
    go_ret
    exact ⟨rfl, HBW.out.trans (HB4.out.mono HBW.out.size)⟩
  · go_wp2_with fail
    generalize hW : World.setCell _ _ _ = W
    have HK : Hid (T9 W w2.heap.size sz sg) := Lib.hid (by rw [← hW]; exact t9_set _ _ _ _ (fun o ho => by rw [hc3 _ _ (by simp)]; rw [World.cell?_alloc_new]; simp; omega))
    have HBW : Hid (Below w.heap.size w W) := Lib.hid (by
      have hb := HB0.out.trans (HB3.out.mono HB0.out.size)
      have h1 := HB0.out.size
      have h2 := HB2.out.size
      have h3 := HB3.out.size
      rw [← hW]
      ((repeat (first | (with_reducible exact hb) | (with_reducible apply Below.setCell) | (with_reducible apply Below.alloc))) <;> first | omega | (simp; omega)))
    have HLT : Hid (w2.heap.size < W.heap.size) := Lib.hid (by rw [← hW]; have := HB3.out.size; simp; omega)
    obtain ⟨k0_0, k0_1, k0_2, k0_3, k0_4, k0_5, k0_6, k0_7, k0_8⟩ := HK.out
    clear hW hb2 hc2 hf2 hb3 hc3 hf3 hk0 hk1 hk0' hk1' hk0'' hk1''
    (with_reducible refine (HX.out _).mono ?_)
    rintro e w_1 ⟨rfl, hb1⟩
    have HB1 : Hid (Below W.heap.size W w_1) := Lib.hid ((Below.refl W.heap.size W).trans hb1)
    obtain ⟨k1_0, k1_1, k1_2, k1_3, k1_4, k1_5, k1_6, k1_7, k1_8⟩ := HK.out.below HB1.out (by exact HLT.out)
    clear hb1 k0_0 k0_1 k0_2 k0_3 k0_4 k0_5 k0_6 k0_7 k0_8
    go_wp2_with fail
    (with_reducible refine (HY.out _).mono ?_)
    rintro e w_2 ⟨rfl, hb2⟩
    have HB2 : Hid (Below W.heap.size W w_2) := Lib.hid (HB1.out.trans (hb2.mono HB1.out.size))
    obtain ⟨k2_0, k2_1, k2_2, k2_3, k2_4, k2_5, k2_6, k2_7, k2_8⟩ := HK.out.below HB2.out (by exact HLT.out)
    clear hb2 k1_0 k1_1 k1_2 k1_3 k1_4 k1_5 k1_6 k1_7 k1_8
    go_wp2_with fail
    (with_reducible refine (HBN.out _).mono ?_)
    rintro e w_3 ⟨rfl, hb3⟩
    have HB3 : Hid (Below W.heap.size W w_3) := Lib.hid (HB2.out.trans (hb3.mono HB2.out.size))
    obtain ⟨k3_0, k3_1, k3_2, k3_3, k3_4, k3_5, k3_6, k3_7, k3_8⟩ := HK.out.below HB3.out (by exact HLT.out)
    clear hb3 k2_0 k2_1 k2_2 k2_3 k2_4 k2_5 k2_6 k2_7 k2_8
    go_wp2_with fail
    (with_reducible refine (HRN.out _).mono ?_)
    rintro e w_4 ⟨rfl, hb4⟩
    have HB4 : Hid (Below W.heap.size W w_4) := Lib.hid (HB3.out.trans (hb4.mono HB3.out.size))
    obtain ⟨k4_0, k4_1, k4_2, k4_3, k4_4, k4_5, k4_6, k4_7, k4_8⟩ := HK.out.below HB4.out (by exact HLT.out)
    clear hb4 k3_0 k3_1 k3_2 k3_3 k3_4 k3_5 k3_6 k3_7 k3_8
    go_wp2_with fail
    go_ret
    exact ⟨rfl, HBW.out.trans (HB4.out.mono HBW.out.size)⟩
  · go_wp2_with fail
    generalize hW : World.setCell _ _ _ = W
    have HK : Hid (T9 W w1.heap.size sz sg) := Lib.hid (by rw [← hW]; exact t9_set _ _ _ _ (fun o ho => by rw [hc3 _ _ lt2, hc2 _ _ (by simp)]; first | (rw [World.cell?_alloc_new]; simp; omega) | (rw [show ∀ (W : World) (a : Addr), W.drew.cell? a = W.cell? a from fun _ _ => rfl, World.cell?_alloc_new]; simp; omega)))
    have HBW : Hid (Below w.heap.size w W) := Lib.hid (by
      have hb := HB0.out.trans (HB3.out.mono HB0.out.size)
      have h1 := HB0.out.size
      have h2 := HB2.out.size
      have h3 := HB3.out.size
      rw [← hW]
      ((repeat (first | (with_reducible exact hb) | (with_reducible apply Below.setCell) | (with_reducible apply Below.alloc))) <;> first | omega | (simp; omega)))
    have HLT : Hid (w1.heap.size < W.heap.size) := Lib.hid (by rw [← hW]; have := HB3.out.size; simp; omega)
    obtain ⟨k0_0, k0_1, k0_2, k0_3, k0_4, k0_5, k0_6, k0_7, k0_8⟩ := HK.out
    clear hW hb2 hc2 hf2 hb3 hc3 hf3 hk0 hk1 hk0' hk1' hk0'' hk1''
    (with_reducible refine (HX.out _).mono ?_)
    rintro e w_1 ⟨rfl, hb1⟩
    have HB1 : Hid (Below W.heap.size W w_1) := Lib.hid ((Below.refl W.heap.size W).trans hb1)
    obtain ⟨k1_0, k1_1, k1_2, k1_3, k1_4, k1_5, k1_6, k1_7, k1_8⟩ := HK.out.below HB1.out (by exact HLT.out)
    clear hb1 k0_0 k0_1 k0_2 k0_3 k0_4 k0_5 k0_6 k0_7 k0_8
    go_wp2_with fail
    (with_reducible refine (HY.out _).mono ?_)
    rintro e w_2 ⟨rfl, hb2⟩
    have HB2 : Hid (Below W.heap.size W w_2) := Lib.hid (HB1.out.trans (hb2.mono HB1.out.size))
    obtain ⟨k2_0, k2_1, k2_2, k2_3, k2_4, k2_5, k2_6, k2_7, k2_8⟩ := HK.out.below HB2.out (by exact HLT.out)
    clear hb2 k1_0 k1_1 k1_2 k1_3 k1_4 k1_5 k1_6 k1_7 k1_8
    go_wp2_with fail
    (with_reducible refine (HBN.out _).mono ?_)
    rintro e w_3 ⟨rfl, hb3⟩
    have HB3 : Hid (Below W.heap.size W w_3) := Lib.hid (HB2.out.trans (hb3.mono HB2.out.size))
    obtain ⟨k3_0, k3_1, k3_2, k3_3, k3_4, k3_5, k3_6, k3_7, k3_8⟩ := HK.out.below HB3.out (by exact HLT.out)
    clear hb3 k2_0 k2_1 k2_2 k2_3 k2_4 k2_5 k2_6 k2_7 k2_8
    go_wp2_with fail
    (with_reducible refine (HRN.out _).mono ?_)
    rintro e w_4 ⟨rfl, hb4⟩
    have HB4 : Hid (Below W.heap.size W w_4) := Lib.hid (HB3.out.trans (hb4.mono HB3.out.size))
    obtain ⟨k4_0, k4_1, k4_2, k4_3, k4_4, k4_5, k4_6, k4_7, k4_8⟩ := HK.out.below HB4.out (by exact HLT.out)
    clear hb4 k3_0 k3_1 k3_2 k3_3 k3_4 k3_5 k3_6 k3_7 k3_8
    go_wp2_with fail
    go_ret
    exact ⟨rfl, HBW.out.trans (HB4.out.mono HBW.out.size)⟩

set_option maxHeartbeats 8000000 in
theorem bins_6 (sz : Nat) (sg : Bool) (how h2 a b x y r : Int) (ok : Bool)
    (CT : ∀ w, Calls Try.prog 8 #[.int .i64 how] w (TypeIs sz sg w))
    (CO : ∀ w, Calls Try.prog 9 #[.int .i64 h2] w (StrIs ⟨#[60, 60]⟩ w))
    (CX : ∀ w, Calls Try.prog 10 #[.agg #[.int .i64 1, .int .i64 sz, .bool sg, .bool false, .pointer none, .int .i64 0, .int .i64 0, .slice none 0 0, .pointer none], .int .i64 a] w (IntIs .i64 x w))
    (CB : ∀ w, Calls Try.prog 11 #[.string ⟨#[60, 60]⟩, .agg #[.int .i64 1, .int .i64 sz, .bool sg, .bool false, .pointer none, .int .i64 0, .int .i64 0, .slice none 0 0, .pointer none], .int .i64 x, .int .i64 b] w (PairIs r ok w))
    (CR : ∀ w, Calls Try.prog 12 #[.string ⟨#[60, 60]⟩, .agg #[.int .i64 1, .int .i64 sz, .bool sg, .bool false, .pointer none, .int .i64 0, .int .i64 0, .slice none 0 0, .pointer none], .int .i64 x, .int .i64 b] w (PairIs r ok w))
    (w : World) : Calls Try.prog 3 #[.agg #[.int .i64 how, .int .i64 h2], .int .i64 a, .int .i64 b] w (BoolIs true w) := by
  have HT := Lib.hid CT
  have HO := Lib.hid CO
  have HX := Lib.hid CX
  have HBN := Lib.hid CB
  have HRN := Lib.hid CR
  clear CT CO CX CB CR
  go_enter Try.func3, Try.ntmps3
  go_wp2_with fail
  refine (fit_law _).mono ?_
  rintro e w1 ⟨rfl, hb1⟩
  have hk0 : w1.cell? ⟨w.heap.size, 0, none⟩ = some (.int .i64 how) := by rw [hb1.cell (by simp)]; simp
  have hk1 : w1.cell? ⟨w.heap.size, 1, none⟩ = some (.int .i64 h2) := by rw [hb1.cell (by simp)]; simp
  have hw1 : w.heap.size < w1.heap.size := by have := hb1.size; simp at this; omega
  have HB0 := Lib.hid (((Below.refl _ _).alloc (Nat.le_refl _) _).trans (hb1.mono (by simp)))
  have HK0 := Lib.hid hk0
  have HK1 := Lib.hid hk1
  have HW1 := Lib.hid hw1
  have ne1 : ¬ w.heap.size = w1.heap.size := by omega
  have en1 : ¬ w1.heap.size = w.heap.size := by omega
  clear hb1
  go_wp2_with fail
  go_region_held3 (fun w' => w'.cell? ⟨w.heap.size, 0, none⟩ = some (.int .i64 how) ∧ w'.cell? ⟨w.heap.size, 1, none⟩ = some (.int .i64 h2)) (go_keep)
    (first
      | (go_at_call 9
         refine (HO.out _).mono ?_
         rintro e w3 ⟨rfl, hb3⟩
         obtain ⟨hc3, hf3⟩ := bcell hb3
         have hs3 := hb3.size
         (try simp [go_sem] at hs3)
         (first | (have lt3 : w2.heap.size < w3.heap.size := by omega) | skip)
         have HB3 : Hid (Below w1.heap.size w1 w3) := Lib.hid (by
           first
           | exact HB2.out.trans (hb3.mono HB2.out.size)
           | exact (HB2.out.alloc HB2.out.size _).trans (hb3.mono (by have := HB2.out.size; simp; omega)))
         have hk0'' : w3.cell? ⟨w.heap.size, 0, none⟩ = some (.int .i64 how) := by rw [HB3.out.cell (by exact HW1.out)]; exact HK0.out
         have hk1'' : w3.cell? ⟨w.heap.size, 1, none⟩ = some (.int .i64 h2) := by rw [HB3.out.cell (by exact HW1.out)]; exact HK1.out
         have hz3 : w.heap.size < w3.heap.size := by have h1 := HB3.out.size; have h2 := HW1.out; omega
         have ne3 : ¬ w.heap.size = w3.heap.size := by omega
         have en3 : ¬ w3.heap.size = w.heap.size := by omega
         skip)
      | (go_at_call 8
         refine (HT.out _).mono ?_
         rintro e w2 ⟨rfl, hb2⟩
         obtain ⟨hc2, hf2⟩ := bcell hb2
         have hs2 := hb2.size
         (try simp [go_sem] at hs2)
         (first | (have lt2 : w1.heap.size < w2.heap.size := by omega) | skip)
         rw [show tV sz sg = .agg #[.int .i64 1, .int .i64 sz, .bool sg, .bool false, .pointer none, .int .i64 0, .int .i64 0, .slice none 0 0, .pointer none] from rfl]
         have HB2 : Hid (Below w1.heap.size w1 w2) := Lib.hid (by
           first
           | exact (Below.refl _ _).drew.trans hb2
           | exact ((Below.refl _ _).drew.alloc (by simp) _).trans (hb2.mono (by simp))
           | exact ((Below.refl _ _).alloc (Nat.le_refl _) _).trans (hb2.mono (by simp)))
         have hk0' : w2.cell? ⟨w.heap.size, 0, none⟩ = some (.int .i64 how) := by rw [HB2.out.cell (by exact HW1.out)]; exact HK0.out
         have hk1' : w2.cell? ⟨w.heap.size, 1, none⟩ = some (.int .i64 h2) := by rw [HB2.out.cell (by exact HW1.out)]; exact HK1.out
         have hz2 : w.heap.size < w2.heap.size := by have h1 := HB2.out.size; have h2 := HW1.out; omega
         have ne2 : ¬ w.heap.size = w2.heap.size := by omega
         have en2 : ¬ w2.heap.size = w.heap.size := by omega
         skip))
  · go_wp2_with fail
    generalize hW : World.alloc _ _ = W
    have HK : Hid (T9 W w3.heap.size sz sg) := Lib.hid (by rw [← hW]; exact t9_alloc w3 sz sg _)
    have HBW : Hid (Below w.heap.size w W) := Lib.hid (by
      have hb := HB0.out.trans (HB3.out.mono HB0.out.size)
      have h1 := HB0.out.size
      have h2 := HB2.out.size
      have h3 := HB3.out.size
      rw [← hW]
      ((repeat (first | (with_reducible exact hb) | (with_reducible apply Below.setCell) | (with_reducible apply Below.alloc))) <;> first | omega | (simp; omega)))
    have HLT : Hid (w3.heap.size < W.heap.size) := Lib.hid (by rw [← hW]; simp)
    obtain ⟨k0_0, k0_1, k0_2, k0_3, k0_4, k0_5, k0_6, k0_7, k0_8⟩ := HK.out
    clear hW hb2 hc2 hf2 hb3 hc3 hf3 hk0 hk1 hk0' hk1' hk0'' hk1''
    (with_reducible refine (HX.out _).mono ?_)
    rintro e w_1 ⟨rfl, hb1⟩
    have HB1 : Hid (Below W.heap.size W w_1) := Lib.hid ((Below.refl W.heap.size W).trans hb1)
    obtain ⟨k1_0, k1_1, k1_2, k1_3, k1_4, k1_5, k1_6, k1_7, k1_8⟩ := HK.out.below HB1.out (by exact HLT.out)
    clear hb1 k0_0 k0_1 k0_2 k0_3 k0_4 k0_5 k0_6 k0_7 k0_8
    go_wp2_with fail
    (with_reducible refine (HBN.out _).mono ?_)
    rintro e w_2 ⟨rfl, hb2⟩
    have HB2 : Hid (Below W.heap.size W w_2) := Lib.hid (HB1.out.trans (hb2.mono HB1.out.size))
    obtain ⟨k2_0, k2_1, k2_2, k2_3, k2_4, k2_5, k2_6, k2_7, k2_8⟩ := HK.out.below HB2.out (by exact HLT.out)
    clear hb2 k1_0 k1_1 k1_2 k1_3 k1_4 k1_5 k1_6 k1_7 k1_8
    go_wp2_with fail
    (with_reducible refine (HRN.out _).mono ?_)
    rintro e w_3 ⟨rfl, hb3⟩
    have HB3 : Hid (Below W.heap.size W w_3) := Lib.hid (HB2.out.trans (hb3.mono HB2.out.size))
    obtain ⟨k3_0, k3_1, k3_2, k3_3, k3_4, k3_5, k3_6, k3_7, k3_8⟩ := HK.out.below HB3.out (by exact HLT.out)
    clear hb3 k2_0 k2_1 k2_2 k2_3 k2_4 k2_5 k2_6 k2_7 k2_8
    go_wp2_with fail
    go_ret
    exact ⟨rfl, HBW.out.trans (HB3.out.mono HBW.out.size)⟩
  · go_wp2_with fail
    generalize hW : World.setCell _ _ _ = W
    have HK : Hid (T9 W w2.heap.size sz sg) := Lib.hid (by rw [← hW]; exact t9_set _ _ _ _ (fun o ho => by rw [hc3 _ _ (by simp)]; rw [World.cell?_alloc_new]; simp; omega))
    have HBW : Hid (Below w.heap.size w W) := Lib.hid (by
      have hb := HB0.out.trans (HB3.out.mono HB0.out.size)
      have h1 := HB0.out.size
      have h2 := HB2.out.size
      have h3 := HB3.out.size
      rw [← hW]
      ((repeat (first | (with_reducible exact hb) | (with_reducible apply Below.setCell) | (with_reducible apply Below.alloc))) <;> first | omega | (simp; omega)))
    have HLT : Hid (w2.heap.size < W.heap.size) := Lib.hid (by rw [← hW]; have := HB3.out.size; simp; omega)
    obtain ⟨k0_0, k0_1, k0_2, k0_3, k0_4, k0_5, k0_6, k0_7, k0_8⟩ := HK.out
    clear hW hb2 hc2 hf2 hb3 hc3 hf3 hk0 hk1 hk0' hk1' hk0'' hk1''
    (with_reducible refine (HX.out _).mono ?_)
    rintro e w_1 ⟨rfl, hb1⟩
    have HB1 : Hid (Below W.heap.size W w_1) := Lib.hid ((Below.refl W.heap.size W).trans hb1)
    obtain ⟨k1_0, k1_1, k1_2, k1_3, k1_4, k1_5, k1_6, k1_7, k1_8⟩ := HK.out.below HB1.out (by exact HLT.out)
    clear hb1 k0_0 k0_1 k0_2 k0_3 k0_4 k0_5 k0_6 k0_7 k0_8
    go_wp2_with fail
    (with_reducible refine (HBN.out _).mono ?_)
    rintro e w_2 ⟨rfl, hb2⟩
    have HB2 : Hid (Below W.heap.size W w_2) := Lib.hid (HB1.out.trans (hb2.mono HB1.out.size))
    obtain ⟨k2_0, k2_1, k2_2, k2_3, k2_4, k2_5, k2_6, k2_7, k2_8⟩ := HK.out.below HB2.out (by exact HLT.out)
    clear hb2 k1_0 k1_1 k1_2 k1_3 k1_4 k1_5 k1_6 k1_7 k1_8
    go_wp2_with fail
    (with_reducible refine (HRN.out _).mono ?_)
    rintro e w_3 ⟨rfl, hb3⟩
    have HB3 : Hid (Below W.heap.size W w_3) := Lib.hid (HB2.out.trans (hb3.mono HB2.out.size))
    obtain ⟨k3_0, k3_1, k3_2, k3_3, k3_4, k3_5, k3_6, k3_7, k3_8⟩ := HK.out.below HB3.out (by exact HLT.out)
    clear hb3 k2_0 k2_1 k2_2 k2_3 k2_4 k2_5 k2_6 k2_7 k2_8
    go_wp2_with fail
    go_ret
    exact ⟨rfl, HBW.out.trans (HB3.out.mono HBW.out.size)⟩
  · go_wp2_with fail
    generalize hW : World.setCell _ _ _ = W
    have HK : Hid (T9 W w1.heap.size sz sg) := Lib.hid (by rw [← hW]; exact t9_set _ _ _ _ (fun o ho => by rw [hc3 _ _ lt2, hc2 _ _ (by simp)]; first | (rw [World.cell?_alloc_new]; simp; omega) | (rw [show ∀ (W : World) (a : Addr), W.drew.cell? a = W.cell? a from fun _ _ => rfl, World.cell?_alloc_new]; simp; omega)))
    have HBW : Hid (Below w.heap.size w W) := Lib.hid (by
      have hb := HB0.out.trans (HB3.out.mono HB0.out.size)
      have h1 := HB0.out.size
      have h2 := HB2.out.size
      have h3 := HB3.out.size
      rw [← hW]
      ((repeat (first | (with_reducible exact hb) | (with_reducible apply Below.setCell) | (with_reducible apply Below.alloc))) <;> first | omega | (simp; omega)))
    have HLT : Hid (w1.heap.size < W.heap.size) := Lib.hid (by rw [← hW]; have := HB3.out.size; simp; omega)
    obtain ⟨k0_0, k0_1, k0_2, k0_3, k0_4, k0_5, k0_6, k0_7, k0_8⟩ := HK.out
    clear hW hb2 hc2 hf2 hb3 hc3 hf3 hk0 hk1 hk0' hk1' hk0'' hk1''
    (with_reducible refine (HX.out _).mono ?_)
    rintro e w_1 ⟨rfl, hb1⟩
    have HB1 : Hid (Below W.heap.size W w_1) := Lib.hid ((Below.refl W.heap.size W).trans hb1)
    obtain ⟨k1_0, k1_1, k1_2, k1_3, k1_4, k1_5, k1_6, k1_7, k1_8⟩ := HK.out.below HB1.out (by exact HLT.out)
    clear hb1 k0_0 k0_1 k0_2 k0_3 k0_4 k0_5 k0_6 k0_7 k0_8
    go_wp2_with fail
    (with_reducible refine (HBN.out _).mono ?_)
    rintro e w_2 ⟨rfl, hb2⟩
    have HB2 : Hid (Below W.heap.size W w_2) := Lib.hid (HB1.out.trans (hb2.mono HB1.out.size))
    obtain ⟨k2_0, k2_1, k2_2, k2_3, k2_4, k2_5, k2_6, k2_7, k2_8⟩ := HK.out.below HB2.out (by exact HLT.out)
    clear hb2 k1_0 k1_1 k1_2 k1_3 k1_4 k1_5 k1_6 k1_7 k1_8
    go_wp2_with fail
    (with_reducible refine (HRN.out _).mono ?_)
    rintro e w_3 ⟨rfl, hb3⟩
    have HB3 : Hid (Below W.heap.size W w_3) := Lib.hid (HB2.out.trans (hb3.mono HB2.out.size))
    obtain ⟨k3_0, k3_1, k3_2, k3_3, k3_4, k3_5, k3_6, k3_7, k3_8⟩ := HK.out.below HB3.out (by exact HLT.out)
    clear hb3 k2_0 k2_1 k2_2 k2_3 k2_4 k2_5 k2_6 k2_7 k2_8
    go_wp2_with fail
    go_ret
    exact ⟨rfl, HBW.out.trans (HB3.out.mono HBW.out.size)⟩

set_option maxHeartbeats 8000000 in
theorem bins_7 (sz : Nat) (sg : Bool) (how h2 a b x y r : Int) (ok : Bool)
    (CT : ∀ w, Calls Try.prog 8 #[.int .i64 how] w (TypeIs sz sg w))
    (CO : ∀ w, Calls Try.prog 9 #[.int .i64 h2] w (StrIs ⟨#[62, 62]⟩ w))
    (CX : ∀ w, Calls Try.prog 10 #[.agg #[.int .i64 1, .int .i64 sz, .bool sg, .bool false, .pointer none, .int .i64 0, .int .i64 0, .slice none 0 0, .pointer none], .int .i64 a] w (IntIs .i64 x w))
    (CB : ∀ w, Calls Try.prog 11 #[.string ⟨#[62, 62]⟩, .agg #[.int .i64 1, .int .i64 sz, .bool sg, .bool false, .pointer none, .int .i64 0, .int .i64 0, .slice none 0 0, .pointer none], .int .i64 x, .int .i64 b] w (PairIs r ok w))
    (CR : ∀ w, Calls Try.prog 12 #[.string ⟨#[62, 62]⟩, .agg #[.int .i64 1, .int .i64 sz, .bool sg, .bool false, .pointer none, .int .i64 0, .int .i64 0, .slice none 0 0, .pointer none], .int .i64 x, .int .i64 b] w (PairIs r ok w))
    (w : World) : Calls Try.prog 3 #[.agg #[.int .i64 how, .int .i64 h2], .int .i64 a, .int .i64 b] w (BoolIs true w) := by
  have HT := Lib.hid CT
  have HO := Lib.hid CO
  have HX := Lib.hid CX
  have HBN := Lib.hid CB
  have HRN := Lib.hid CR
  clear CT CO CX CB CR
  go_enter Try.func3, Try.ntmps3
  go_wp2_with fail
  refine (fit_law _).mono ?_
  rintro e w1 ⟨rfl, hb1⟩
  have hk0 : w1.cell? ⟨w.heap.size, 0, none⟩ = some (.int .i64 how) := by rw [hb1.cell (by simp)]; simp
  have hk1 : w1.cell? ⟨w.heap.size, 1, none⟩ = some (.int .i64 h2) := by rw [hb1.cell (by simp)]; simp
  have hw1 : w.heap.size < w1.heap.size := by have := hb1.size; simp at this; omega
  have HB0 := Lib.hid (((Below.refl _ _).alloc (Nat.le_refl _) _).trans (hb1.mono (by simp)))
  have HK0 := Lib.hid hk0
  have HK1 := Lib.hid hk1
  have HW1 := Lib.hid hw1
  have ne1 : ¬ w.heap.size = w1.heap.size := by omega
  have en1 : ¬ w1.heap.size = w.heap.size := by omega
  clear hb1
  go_wp2_with fail
  go_region_held3 (fun w' => w'.cell? ⟨w.heap.size, 0, none⟩ = some (.int .i64 how) ∧ w'.cell? ⟨w.heap.size, 1, none⟩ = some (.int .i64 h2)) (go_keep)
    (first
      | (go_at_call 9
         refine (HO.out _).mono ?_
         rintro e w3 ⟨rfl, hb3⟩
         obtain ⟨hc3, hf3⟩ := bcell hb3
         have hs3 := hb3.size
         (try simp [go_sem] at hs3)
         (first | (have lt3 : w2.heap.size < w3.heap.size := by omega) | skip)
         have HB3 : Hid (Below w1.heap.size w1 w3) := Lib.hid (by
           first
           | exact HB2.out.trans (hb3.mono HB2.out.size)
           | exact (HB2.out.alloc HB2.out.size _).trans (hb3.mono (by have := HB2.out.size; simp; omega)))
         have hk0'' : w3.cell? ⟨w.heap.size, 0, none⟩ = some (.int .i64 how) := by rw [HB3.out.cell (by exact HW1.out)]; exact HK0.out
         have hk1'' : w3.cell? ⟨w.heap.size, 1, none⟩ = some (.int .i64 h2) := by rw [HB3.out.cell (by exact HW1.out)]; exact HK1.out
         have hz3 : w.heap.size < w3.heap.size := by have h1 := HB3.out.size; have h2 := HW1.out; omega
         have ne3 : ¬ w.heap.size = w3.heap.size := by omega
         have en3 : ¬ w3.heap.size = w.heap.size := by omega
         skip)
      | (go_at_call 8
         refine (HT.out _).mono ?_
         rintro e w2 ⟨rfl, hb2⟩
         obtain ⟨hc2, hf2⟩ := bcell hb2
         have hs2 := hb2.size
         (try simp [go_sem] at hs2)
         (first | (have lt2 : w1.heap.size < w2.heap.size := by omega) | skip)
         rw [show tV sz sg = .agg #[.int .i64 1, .int .i64 sz, .bool sg, .bool false, .pointer none, .int .i64 0, .int .i64 0, .slice none 0 0, .pointer none] from rfl]
         have HB2 : Hid (Below w1.heap.size w1 w2) := Lib.hid (by
           first
           | exact (Below.refl _ _).drew.trans hb2
           | exact ((Below.refl _ _).drew.alloc (by simp) _).trans (hb2.mono (by simp))
           | exact ((Below.refl _ _).alloc (Nat.le_refl _) _).trans (hb2.mono (by simp)))
         have hk0' : w2.cell? ⟨w.heap.size, 0, none⟩ = some (.int .i64 how) := by rw [HB2.out.cell (by exact HW1.out)]; exact HK0.out
         have hk1' : w2.cell? ⟨w.heap.size, 1, none⟩ = some (.int .i64 h2) := by rw [HB2.out.cell (by exact HW1.out)]; exact HK1.out
         have hz2 : w.heap.size < w2.heap.size := by have h1 := HB2.out.size; have h2 := HW1.out; omega
         have ne2 : ¬ w.heap.size = w2.heap.size := by omega
         have en2 : ¬ w2.heap.size = w.heap.size := by omega
         skip))
  · go_wp2_with fail
    generalize hW : World.alloc _ _ = W
    have HK : Hid (T9 W w3.heap.size sz sg) := Lib.hid (by rw [← hW]; exact t9_alloc w3 sz sg _)
    have HBW : Hid (Below w.heap.size w W) := Lib.hid (by
      have hb := HB0.out.trans (HB3.out.mono HB0.out.size)
      have h1 := HB0.out.size
      have h2 := HB2.out.size
      have h3 := HB3.out.size
      rw [← hW]
      ((repeat (first | (with_reducible exact hb) | (with_reducible apply Below.setCell) | (with_reducible apply Below.alloc))) <;> first | omega | (simp; omega)))
    have HLT : Hid (w3.heap.size < W.heap.size) := Lib.hid (by rw [← hW]; simp)
    obtain ⟨k0_0, k0_1, k0_2, k0_3, k0_4, k0_5, k0_6, k0_7, k0_8⟩ := HK.out
    clear hW hb2 hc2 hf2 hb3 hc3 hf3 hk0 hk1 hk0' hk1' hk0'' hk1''
    (with_reducible refine (HX.out _).mono ?_)
    rintro e w_1 ⟨rfl, hb1⟩
    have HB1 : Hid (Below W.heap.size W w_1) := Lib.hid ((Below.refl W.heap.size W).trans hb1)
    obtain ⟨k1_0, k1_1, k1_2, k1_3, k1_4, k1_5, k1_6, k1_7, k1_8⟩ := HK.out.below HB1.out (by exact HLT.out)
    clear hb1 k0_0 k0_1 k0_2 k0_3 k0_4 k0_5 k0_6 k0_7 k0_8
    go_wp2_with fail
    (with_reducible refine (HBN.out _).mono ?_)
    rintro e w_2 ⟨rfl, hb2⟩
    have HB2 : Hid (Below W.heap.size W w_2) := Lib.hid (HB1.out.trans (hb2.mono HB1.out.size))
    obtain ⟨k2_0, k2_1, k2_2, k2_3, k2_4, k2_5, k2_6, k2_7, k2_8⟩ := HK.out.below HB2.out (by exact HLT.out)
    clear hb2 k1_0 k1_1 k1_2 k1_3 k1_4 k1_5 k1_6 k1_7 k1_8
    go_wp2_with fail
    (with_reducible refine (HRN.out _).mono ?_)
    rintro e w_3 ⟨rfl, hb3⟩
    have HB3 : Hid (Below W.heap.size W w_3) := Lib.hid (HB2.out.trans (hb3.mono HB2.out.size))
    obtain ⟨k3_0, k3_1, k3_2, k3_3, k3_4, k3_5, k3_6, k3_7, k3_8⟩ := HK.out.below HB3.out (by exact HLT.out)
    clear hb3 k2_0 k2_1 k2_2 k2_3 k2_4 k2_5 k2_6 k2_7 k2_8
    go_wp2_with fail
    go_ret
    exact ⟨rfl, HBW.out.trans (HB3.out.mono HBW.out.size)⟩
  · go_wp2_with fail
    generalize hW : World.setCell _ _ _ = W
    have HK : Hid (T9 W w2.heap.size sz sg) := Lib.hid (by rw [← hW]; exact t9_set _ _ _ _ (fun o ho => by rw [hc3 _ _ (by simp)]; rw [World.cell?_alloc_new]; simp; omega))
    have HBW : Hid (Below w.heap.size w W) := Lib.hid (by
      have hb := HB0.out.trans (HB3.out.mono HB0.out.size)
      have h1 := HB0.out.size
      have h2 := HB2.out.size
      have h3 := HB3.out.size
      rw [← hW]
      ((repeat (first | (with_reducible exact hb) | (with_reducible apply Below.setCell) | (with_reducible apply Below.alloc))) <;> first | omega | (simp; omega)))
    have HLT : Hid (w2.heap.size < W.heap.size) := Lib.hid (by rw [← hW]; have := HB3.out.size; simp; omega)
    obtain ⟨k0_0, k0_1, k0_2, k0_3, k0_4, k0_5, k0_6, k0_7, k0_8⟩ := HK.out
    clear hW hb2 hc2 hf2 hb3 hc3 hf3 hk0 hk1 hk0' hk1' hk0'' hk1''
    (with_reducible refine (HX.out _).mono ?_)
    rintro e w_1 ⟨rfl, hb1⟩
    have HB1 : Hid (Below W.heap.size W w_1) := Lib.hid ((Below.refl W.heap.size W).trans hb1)
    obtain ⟨k1_0, k1_1, k1_2, k1_3, k1_4, k1_5, k1_6, k1_7, k1_8⟩ := HK.out.below HB1.out (by exact HLT.out)
    clear hb1 k0_0 k0_1 k0_2 k0_3 k0_4 k0_5 k0_6 k0_7 k0_8
    go_wp2_with fail
    (with_reducible refine (HBN.out _).mono ?_)
    rintro e w_2 ⟨rfl, hb2⟩
    have HB2 : Hid (Below W.heap.size W w_2) := Lib.hid (HB1.out.trans (hb2.mono HB1.out.size))
    obtain ⟨k2_0, k2_1, k2_2, k2_3, k2_4, k2_5, k2_6, k2_7, k2_8⟩ := HK.out.below HB2.out (by exact HLT.out)
    clear hb2 k1_0 k1_1 k1_2 k1_3 k1_4 k1_5 k1_6 k1_7 k1_8
    go_wp2_with fail
    (with_reducible refine (HRN.out _).mono ?_)
    rintro e w_3 ⟨rfl, hb3⟩
    have HB3 : Hid (Below W.heap.size W w_3) := Lib.hid (HB2.out.trans (hb3.mono HB2.out.size))
    obtain ⟨k3_0, k3_1, k3_2, k3_3, k3_4, k3_5, k3_6, k3_7, k3_8⟩ := HK.out.below HB3.out (by exact HLT.out)
    clear hb3 k2_0 k2_1 k2_2 k2_3 k2_4 k2_5 k2_6 k2_7 k2_8
    go_wp2_with fail
    go_ret
    exact ⟨rfl, HBW.out.trans (HB3.out.mono HBW.out.size)⟩
  · go_wp2_with fail
    generalize hW : World.setCell _ _ _ = W
    have HK : Hid (T9 W w1.heap.size sz sg) := Lib.hid (by rw [← hW]; exact t9_set _ _ _ _ (fun o ho => by rw [hc3 _ _ lt2, hc2 _ _ (by simp)]; first | (rw [World.cell?_alloc_new]; simp; omega) | (rw [show ∀ (W : World) (a : Addr), W.drew.cell? a = W.cell? a from fun _ _ => rfl, World.cell?_alloc_new]; simp; omega)))
    have HBW : Hid (Below w.heap.size w W) := Lib.hid (by
      have hb := HB0.out.trans (HB3.out.mono HB0.out.size)
      have h1 := HB0.out.size
      have h2 := HB2.out.size
      have h3 := HB3.out.size
      rw [← hW]
      ((repeat (first | (with_reducible exact hb) | (with_reducible apply Below.setCell) | (with_reducible apply Below.alloc))) <;> first | omega | (simp; omega)))
    have HLT : Hid (w1.heap.size < W.heap.size) := Lib.hid (by rw [← hW]; have := HB3.out.size; simp; omega)
    obtain ⟨k0_0, k0_1, k0_2, k0_3, k0_4, k0_5, k0_6, k0_7, k0_8⟩ := HK.out
    clear hW hb2 hc2 hf2 hb3 hc3 hf3 hk0 hk1 hk0' hk1' hk0'' hk1''
    (with_reducible refine (HX.out _).mono ?_)
    rintro e w_1 ⟨rfl, hb1⟩
    have HB1 : Hid (Below W.heap.size W w_1) := Lib.hid ((Below.refl W.heap.size W).trans hb1)
    obtain ⟨k1_0, k1_1, k1_2, k1_3, k1_4, k1_5, k1_6, k1_7, k1_8⟩ := HK.out.below HB1.out (by exact HLT.out)
    clear hb1 k0_0 k0_1 k0_2 k0_3 k0_4 k0_5 k0_6 k0_7 k0_8
    go_wp2_with fail
    (with_reducible refine (HBN.out _).mono ?_)
    rintro e w_2 ⟨rfl, hb2⟩
    have HB2 : Hid (Below W.heap.size W w_2) := Lib.hid (HB1.out.trans (hb2.mono HB1.out.size))
    obtain ⟨k2_0, k2_1, k2_2, k2_3, k2_4, k2_5, k2_6, k2_7, k2_8⟩ := HK.out.below HB2.out (by exact HLT.out)
    clear hb2 k1_0 k1_1 k1_2 k1_3 k1_4 k1_5 k1_6 k1_7 k1_8
    go_wp2_with fail
    (with_reducible refine (HRN.out _).mono ?_)
    rintro e w_3 ⟨rfl, hb3⟩
    have HB3 : Hid (Below W.heap.size W w_3) := Lib.hid (HB2.out.trans (hb3.mono HB2.out.size))
    obtain ⟨k3_0, k3_1, k3_2, k3_3, k3_4, k3_5, k3_6, k3_7, k3_8⟩ := HK.out.below HB3.out (by exact HLT.out)
    clear hb3 k2_0 k2_1 k2_2 k2_3 k2_4 k2_5 k2_6 k2_7 k2_8
    go_wp2_with fail
    go_ret
    exact ⟨rfl, HBW.out.trans (HB3.out.mono HBW.out.size)⟩

set_option maxHeartbeats 8000000 in
theorem bins_8 (sz : Nat) (sg : Bool) (how h2 a b x y r : Int) (ok : Bool)
    (CT : ∀ w, Calls Try.prog 8 #[.int .i64 how] w (TypeIs sz sg w))
    (CO : ∀ w, Calls Try.prog 9 #[.int .i64 h2] w (StrIs ⟨#[47]⟩ w))
    (CX : ∀ w, Calls Try.prog 10 #[.agg #[.int .i64 1, .int .i64 sz, .bool sg, .bool false, .pointer none, .int .i64 0, .int .i64 0, .slice none 0 0, .pointer none], .int .i64 a] w (IntIs .i64 x w))
    (CY : ∀ w, Calls Try.prog 10 #[.agg #[.int .i64 1, .int .i64 sz, .bool sg, .bool false, .pointer none, .int .i64 0, .int .i64 0, .slice none 0 0, .pointer none], .int .i64 b] w (IntIs .i64 y w))
    (CB : ∀ w, Calls Try.prog 11 #[.string ⟨#[47]⟩, .agg #[.int .i64 1, .int .i64 sz, .bool sg, .bool false, .pointer none, .int .i64 0, .int .i64 0, .slice none 0 0, .pointer none], .int .i64 x, .int .i64 y] w (PairIs r ok w))
    (CR : ∀ w, Calls Try.prog 12 #[.string ⟨#[47]⟩, .agg #[.int .i64 1, .int .i64 sz, .bool sg, .bool false, .pointer none, .int .i64 0, .int .i64 0, .slice none 0 0, .pointer none], .int .i64 x, .int .i64 y] w (PairIs r ok w))
    (w : World) : Calls Try.prog 3 #[.agg #[.int .i64 how, .int .i64 h2], .int .i64 a, .int .i64 b] w (BoolIs true w) := by
  have HT := Lib.hid CT
  have HO := Lib.hid CO
  have HX := Lib.hid CX
  have HY := Lib.hid CY
  clear CY
  have HBN := Lib.hid CB
  have HRN := Lib.hid CR
  clear CT CO CX CB CR
  go_enter Try.func3, Try.ntmps3
  go_wp2_with fail
  refine (fit_law _).mono ?_
  rintro e w1 ⟨rfl, hb1⟩
  have hk0 : w1.cell? ⟨w.heap.size, 0, none⟩ = some (.int .i64 how) := by rw [hb1.cell (by simp)]; simp
  have hk1 : w1.cell? ⟨w.heap.size, 1, none⟩ = some (.int .i64 h2) := by rw [hb1.cell (by simp)]; simp
  have hw1 : w.heap.size < w1.heap.size := by have := hb1.size; simp at this; omega
  have HB0 := Lib.hid (((Below.refl _ _).alloc (Nat.le_refl _) _).trans (hb1.mono (by simp)))
  have HK0 := Lib.hid hk0
  have HK1 := Lib.hid hk1
  have HW1 := Lib.hid hw1
  have ne1 : ¬ w.heap.size = w1.heap.size := by omega
  have en1 : ¬ w1.heap.size = w.heap.size := by omega
  clear hb1
  go_wp2_with fail
  go_region_held3 (fun w' => w'.cell? ⟨w.heap.size, 0, none⟩ = some (.int .i64 how) ∧ w'.cell? ⟨w.heap.size, 1, none⟩ = some (.int .i64 h2)) (go_keep)
    (first
      | (go_at_call 9
         refine (HO.out _).mono ?_
         rintro e w3 ⟨rfl, hb3⟩
         obtain ⟨hc3, hf3⟩ := bcell hb3
         have hs3 := hb3.size
         (try simp [go_sem] at hs3)
         (first | (have lt3 : w2.heap.size < w3.heap.size := by omega) | skip)
         have HB3 : Hid (Below w1.heap.size w1 w3) := Lib.hid (by
           first
           | exact HB2.out.trans (hb3.mono HB2.out.size)
           | exact (HB2.out.alloc HB2.out.size _).trans (hb3.mono (by have := HB2.out.size; simp; omega)))
         have hk0'' : w3.cell? ⟨w.heap.size, 0, none⟩ = some (.int .i64 how) := by rw [HB3.out.cell (by exact HW1.out)]; exact HK0.out
         have hk1'' : w3.cell? ⟨w.heap.size, 1, none⟩ = some (.int .i64 h2) := by rw [HB3.out.cell (by exact HW1.out)]; exact HK1.out
         have hz3 : w.heap.size < w3.heap.size := by have h1 := HB3.out.size; have h2 := HW1.out; omega
         have ne3 : ¬ w.heap.size = w3.heap.size := by omega
         have en3 : ¬ w3.heap.size = w.heap.size := by omega
         skip)
      | (go_at_call 8
         refine (HT.out _).mono ?_
         rintro e w2 ⟨rfl, hb2⟩
         obtain ⟨hc2, hf2⟩ := bcell hb2
         have hs2 := hb2.size
         (try simp [go_sem] at hs2)
         (first | (have lt2 : w1.heap.size < w2.heap.size := by omega) | skip)
         rw [show tV sz sg = .agg #[.int .i64 1, .int .i64 sz, .bool sg, .bool false, .pointer none, .int .i64 0, .int .i64 0, .slice none 0 0, .pointer none] from rfl]
         have HB2 : Hid (Below w1.heap.size w1 w2) := Lib.hid (by
           first
           | exact (Below.refl _ _).drew.trans hb2
           | exact ((Below.refl _ _).drew.alloc (by simp) _).trans (hb2.mono (by simp))
           | exact ((Below.refl _ _).alloc (Nat.le_refl _) _).trans (hb2.mono (by simp)))
         have hk0' : w2.cell? ⟨w.heap.size, 0, none⟩ = some (.int .i64 how) := by rw [HB2.out.cell (by exact HW1.out)]; exact HK0.out
         have hk1' : w2.cell? ⟨w.heap.size, 1, none⟩ = some (.int .i64 h2) := by rw [HB2.out.cell (by exact HW1.out)]; exact HK1.out
         have hz2 : w.heap.size < w2.heap.size := by have h1 := HB2.out.size; have h2 := HW1.out; omega
         have ne2 : ¬ w.heap.size = w2.heap.size := by omega
         have en2 : ¬ w2.heap.size = w.heap.size := by omega
         skip))
  · go_wp2_with fail
    generalize hW : World.alloc _ _ = W
    have HK : Hid (T9 W w3.heap.size sz sg) := Lib.hid (by rw [← hW]; exact t9_alloc w3 sz sg _)
    have HBW : Hid (Below w.heap.size w W) := Lib.hid (by
      have hb := HB0.out.trans (HB3.out.mono HB0.out.size)
      have h1 := HB0.out.size
      have h2 := HB2.out.size
      have h3 := HB3.out.size
      rw [← hW]
      ((repeat (first | (with_reducible exact hb) | (with_reducible apply Below.setCell) | (with_reducible apply Below.alloc))) <;> first | omega | (simp; omega)))
    have HLT : Hid (w3.heap.size < W.heap.size) := Lib.hid (by rw [← hW]; simp)
    obtain ⟨k0_0, k0_1, k0_2, k0_3, k0_4, k0_5, k0_6, k0_7, k0_8⟩ := HK.out
    clear hW hb2 hc2 hf2 hb3 hc3 hf3 hk0 hk1 hk0' hk1' hk0'' hk1''
    (with_reducible refine (HX.out _).mono ?_)
    rintro e w_1 ⟨rfl, hb1⟩
    have HB1 : Hid (Below W.heap.size W w_1) := Lib.hid ((Below.refl W.heap.size W).trans hb1)
    obtain ⟨k1_0, k1_1, k1_2, k1_3, k1_4, k1_5, k1_6, k1_7, k1_8⟩ := HK.out.below HB1.out (by exact HLT.out)
    clear hb1 k0_0 k0_1 k0_2 k0_3 k0_4 k0_5 k0_6 k0_7 k0_8
    go_wp2_with fail
    (with_reducible refine (HY.out _).mono ?_)
    rintro e w_2 ⟨rfl, hb2⟩
    have HB2 : Hid (Below W.heap.size W w_2) := Lib.hid (HB1.out.trans (hb2.mono HB1.out.size))
    obtain ⟨k2_0, k2_1, k2_2, k2_3, k2_4, k2_5, k2_6, k2_7, k2_8⟩ := HK.out.below HB2.out (by exact HLT.out)
    clear hb2 k1_0 k1_1 k1_2 k1_3 k1_4 k1_5 k1_6 k1_7 k1_8
    go_wp2_with fail
    (with_reducible refine (HBN.out _).mono ?_)
    rintro e w_3 ⟨rfl, hb3⟩
    have HB3 : Hid (Below W.heap.size W w_3) := Lib.hid (HB2.out.trans (hb3.mono HB2.out.size))
    obtain ⟨k3_0, k3_1, k3_2, k3_3, k3_4, k3_5, k3_6, k3_7, k3_8⟩ := HK.out.below HB3.out (by exact HLT.out)
    clear hb3 k2_0 k2_1 k2_2 k2_3 k2_4 k2_5 k2_6 k2_7 k2_8
    go_wp2_with fail
    (with_reducible refine (HRN.out _).mono ?_)
    rintro e w_4 ⟨rfl, hb4⟩
    have HB4 : Hid (Below W.heap.size W w_4) := Lib.hid (HB3.out.trans (hb4.mono HB3.out.size))
    obtain ⟨k4_0, k4_1, k4_2, k4_3, k4_4, k4_5, k4_6, k4_7, k4_8⟩ := HK.out.below HB4.out (by exact HLT.out)
    clear hb4 k3_0 k3_1 k3_2 k3_3 k3_4 k3_5 k3_6 k3_7 k3_8
    go_wp2_with fail
    go_ret
    exact ⟨rfl, HBW.out.trans (HB4.out.mono HBW.out.size)⟩
  · go_wp2_with fail
    generalize hW : World.setCell _ _ _ = W
    have HK : Hid (T9 W w2.heap.size sz sg) := Lib.hid (by rw [← hW]; exact t9_set _ _ _ _ (fun o ho => by rw [hc3 _ _ (by simp)]; rw [World.cell?_alloc_new]; simp; omega))
    have HBW : Hid (Below w.heap.size w W) := Lib.hid (by
      have hb := HB0.out.trans (HB3.out.mono HB0.out.size)
      have h1 := HB0.out.size
      have h2 := HB2.out.size
      have h3 := HB3.out.size
      rw [← hW]
      ((repeat (first | (with_reducible exact hb) | (with_reducible apply Below.setCell) | (with_reducible apply Below.alloc))) <;> first | omega | (simp; omega)))
    have HLT : Hid (w2.heap.size < W.heap.size) := Lib.hid (by rw [← hW]; have := HB3.out.size; simp; omega)
    obtain ⟨k0_0, k0_1, k0_2, k0_3, k0_4, k0_5, k0_6, k0_7, k0_8⟩ := HK.out
    clear hW hb2 hc2 hf2 hb3 hc3 hf3 hk0 hk1 hk0' hk1' hk0'' hk1''
    (with_reducible refine (HX.out _).mono ?_)
    rintro e w_1 ⟨rfl, hb1⟩
    have HB1 : Hid (Below W.heap.size W w_1) := Lib.hid ((Below.refl W.heap.size W).trans hb1)
    obtain ⟨k1_0, k1_1, k1_2, k1_3, k1_4, k1_5, k1_6, k1_7, k1_8⟩ := HK.out.below HB1.out (by exact HLT.out)
    clear hb1 k0_0 k0_1 k0_2 k0_3 k0_4 k0_5 k0_6 k0_7 k0_8
    go_wp2_with fail
    (with_reducible refine (HY.out _).mono ?_)
    rintro e w_2 ⟨rfl, hb2⟩
    have HB2 : Hid (Below W.heap.size W w_2) := Lib.hid (HB1.out.trans (hb2.mono HB1.out.size))
    obtain ⟨k2_0, k2_1, k2_2, k2_3, k2_4, k2_5, k2_6, k2_7, k2_8⟩ := HK.out.below HB2.out (by exact HLT.out)
    clear hb2 k1_0 k1_1 k1_2 k1_3 k1_4 k1_5 k1_6 k1_7 k1_8
    go_wp2_with fail
    (with_reducible refine (HBN.out _).mono ?_)
    rintro e w_3 ⟨rfl, hb3⟩
    have HB3 : Hid (Below W.heap.size W w_3) := Lib.hid (HB2.out.trans (hb3.mono HB2.out.size))
    obtain ⟨k3_0, k3_1, k3_2, k3_3, k3_4, k3_5, k3_6, k3_7, k3_8⟩ := HK.out.below HB3.out (by exact HLT.out)
    clear hb3 k2_0 k2_1 k2_2 k2_3 k2_4 k2_5 k2_6 k2_7 k2_8
    go_wp2_with fail
    (with_reducible refine (HRN.out _).mono ?_)
    rintro e w_4 ⟨rfl, hb4⟩
    have HB4 : Hid (Below W.heap.size W w_4) := Lib.hid (HB3.out.trans (hb4.mono HB3.out.size))
    obtain ⟨k4_0, k4_1, k4_2, k4_3, k4_4, k4_5, k4_6, k4_7, k4_8⟩ := HK.out.below HB4.out (by exact HLT.out)
    clear hb4 k3_0 k3_1 k3_2 k3_3 k3_4 k3_5 k3_6 k3_7 k3_8
    go_wp2_with fail
    go_ret
    exact ⟨rfl, HBW.out.trans (HB4.out.mono HBW.out.size)⟩
  · go_wp2_with fail
    generalize hW : World.setCell _ _ _ = W
    have HK : Hid (T9 W w1.heap.size sz sg) := Lib.hid (by rw [← hW]; exact t9_set _ _ _ _ (fun o ho => by rw [hc3 _ _ lt2, hc2 _ _ (by simp)]; first | (rw [World.cell?_alloc_new]; simp; omega) | (rw [show ∀ (W : World) (a : Addr), W.drew.cell? a = W.cell? a from fun _ _ => rfl, World.cell?_alloc_new]; simp; omega)))
    have HBW : Hid (Below w.heap.size w W) := Lib.hid (by
      have hb := HB0.out.trans (HB3.out.mono HB0.out.size)
      have h1 := HB0.out.size
      have h2 := HB2.out.size
      have h3 := HB3.out.size
      rw [← hW]
      ((repeat (first | (with_reducible exact hb) | (with_reducible apply Below.setCell) | (with_reducible apply Below.alloc))) <;> first | omega | (simp; omega)))
    have HLT : Hid (w1.heap.size < W.heap.size) := Lib.hid (by rw [← hW]; have := HB3.out.size; simp; omega)
    obtain ⟨k0_0, k0_1, k0_2, k0_3, k0_4, k0_5, k0_6, k0_7, k0_8⟩ := HK.out
    clear hW hb2 hc2 hf2 hb3 hc3 hf3 hk0 hk1 hk0' hk1' hk0'' hk1''
    (with_reducible refine (HX.out _).mono ?_)
    rintro e w_1 ⟨rfl, hb1⟩
    have HB1 : Hid (Below W.heap.size W w_1) := Lib.hid ((Below.refl W.heap.size W).trans hb1)
    obtain ⟨k1_0, k1_1, k1_2, k1_3, k1_4, k1_5, k1_6, k1_7, k1_8⟩ := HK.out.below HB1.out (by exact HLT.out)
    clear hb1 k0_0 k0_1 k0_2 k0_3 k0_4 k0_5 k0_6 k0_7 k0_8
    go_wp2_with fail
    (with_reducible refine (HY.out _).mono ?_)
    rintro e w_2 ⟨rfl, hb2⟩
    have HB2 : Hid (Below W.heap.size W w_2) := Lib.hid (HB1.out.trans (hb2.mono HB1.out.size))
    obtain ⟨k2_0, k2_1, k2_2, k2_3, k2_4, k2_5, k2_6, k2_7, k2_8⟩ := HK.out.below HB2.out (by exact HLT.out)
    clear hb2 k1_0 k1_1 k1_2 k1_3 k1_4 k1_5 k1_6 k1_7 k1_8
    go_wp2_with fail
    (with_reducible refine (HBN.out _).mono ?_)
    rintro e w_3 ⟨rfl, hb3⟩
    have HB3 : Hid (Below W.heap.size W w_3) := Lib.hid (HB2.out.trans (hb3.mono HB2.out.size))
    obtain ⟨k3_0, k3_1, k3_2, k3_3, k3_4, k3_5, k3_6, k3_7, k3_8⟩ := HK.out.below HB3.out (by exact HLT.out)
    clear hb3 k2_0 k2_1 k2_2 k2_3 k2_4 k2_5 k2_6 k2_7 k2_8
    go_wp2_with fail
    (with_reducible refine (HRN.out _).mono ?_)
    rintro e w_4 ⟨rfl, hb4⟩
    have HB4 : Hid (Below W.heap.size W w_4) := Lib.hid (HB3.out.trans (hb4.mono HB3.out.size))
    obtain ⟨k4_0, k4_1, k4_2, k4_3, k4_4, k4_5, k4_6, k4_7, k4_8⟩ := HK.out.below HB4.out (by exact HLT.out)
    clear hb4 k3_0 k3_1 k3_2 k3_3 k3_4 k3_5 k3_6 k3_7 k3_8
    go_wp2_with fail
    go_ret
    exact ⟨rfl, HBW.out.trans (HB4.out.mono HBW.out.size)⟩

set_option maxHeartbeats 8000000 in
theorem bins_9 (sz : Nat) (sg : Bool) (how h2 a b x y r : Int) (ok : Bool)
    (CT : ∀ w, Calls Try.prog 8 #[.int .i64 how] w (TypeIs sz sg w))
    (CO : ∀ w, Calls Try.prog 9 #[.int .i64 h2] w (StrIs ⟨#[37]⟩ w))
    (CX : ∀ w, Calls Try.prog 10 #[.agg #[.int .i64 1, .int .i64 sz, .bool sg, .bool false, .pointer none, .int .i64 0, .int .i64 0, .slice none 0 0, .pointer none], .int .i64 a] w (IntIs .i64 x w))
    (CY : ∀ w, Calls Try.prog 10 #[.agg #[.int .i64 1, .int .i64 sz, .bool sg, .bool false, .pointer none, .int .i64 0, .int .i64 0, .slice none 0 0, .pointer none], .int .i64 b] w (IntIs .i64 y w))
    (CB : ∀ w, Calls Try.prog 11 #[.string ⟨#[37]⟩, .agg #[.int .i64 1, .int .i64 sz, .bool sg, .bool false, .pointer none, .int .i64 0, .int .i64 0, .slice none 0 0, .pointer none], .int .i64 x, .int .i64 y] w (PairIs r ok w))
    (CR : ∀ w, Calls Try.prog 12 #[.string ⟨#[37]⟩, .agg #[.int .i64 1, .int .i64 sz, .bool sg, .bool false, .pointer none, .int .i64 0, .int .i64 0, .slice none 0 0, .pointer none], .int .i64 x, .int .i64 y] w (PairIs r ok w))
    (w : World) : Calls Try.prog 3 #[.agg #[.int .i64 how, .int .i64 h2], .int .i64 a, .int .i64 b] w (BoolIs true w) := by
  have HT := Lib.hid CT
  have HO := Lib.hid CO
  have HX := Lib.hid CX
  have HY := Lib.hid CY
  clear CY
  have HBN := Lib.hid CB
  have HRN := Lib.hid CR
  clear CT CO CX CB CR
  go_enter Try.func3, Try.ntmps3
  go_wp2_with fail
  refine (fit_law _).mono ?_
  rintro e w1 ⟨rfl, hb1⟩
  have hk0 : w1.cell? ⟨w.heap.size, 0, none⟩ = some (.int .i64 how) := by rw [hb1.cell (by simp)]; simp
  have hk1 : w1.cell? ⟨w.heap.size, 1, none⟩ = some (.int .i64 h2) := by rw [hb1.cell (by simp)]; simp
  have hw1 : w.heap.size < w1.heap.size := by have := hb1.size; simp at this; omega
  have HB0 := Lib.hid (((Below.refl _ _).alloc (Nat.le_refl _) _).trans (hb1.mono (by simp)))
  have HK0 := Lib.hid hk0
  have HK1 := Lib.hid hk1
  have HW1 := Lib.hid hw1
  have ne1 : ¬ w.heap.size = w1.heap.size := by omega
  have en1 : ¬ w1.heap.size = w.heap.size := by omega
  clear hb1
  go_wp2_with fail
  go_region_held3 (fun w' => w'.cell? ⟨w.heap.size, 0, none⟩ = some (.int .i64 how) ∧ w'.cell? ⟨w.heap.size, 1, none⟩ = some (.int .i64 h2)) (go_keep)
    (first
      | (go_at_call 9
         refine (HO.out _).mono ?_
         rintro e w3 ⟨rfl, hb3⟩
         obtain ⟨hc3, hf3⟩ := bcell hb3
         have hs3 := hb3.size
         (try simp [go_sem] at hs3)
         (first | (have lt3 : w2.heap.size < w3.heap.size := by omega) | skip)
         have HB3 : Hid (Below w1.heap.size w1 w3) := Lib.hid (by
           first
           | exact HB2.out.trans (hb3.mono HB2.out.size)
           | exact (HB2.out.alloc HB2.out.size _).trans (hb3.mono (by have := HB2.out.size; simp; omega)))
         have hk0'' : w3.cell? ⟨w.heap.size, 0, none⟩ = some (.int .i64 how) := by rw [HB3.out.cell (by exact HW1.out)]; exact HK0.out
         have hk1'' : w3.cell? ⟨w.heap.size, 1, none⟩ = some (.int .i64 h2) := by rw [HB3.out.cell (by exact HW1.out)]; exact HK1.out
         have hz3 : w.heap.size < w3.heap.size := by have h1 := HB3.out.size; have h2 := HW1.out; omega
         have ne3 : ¬ w.heap.size = w3.heap.size := by omega
         have en3 : ¬ w3.heap.size = w.heap.size := by omega
         skip)
      | (go_at_call 8
         refine (HT.out _).mono ?_
         rintro e w2 ⟨rfl, hb2⟩
         obtain ⟨hc2, hf2⟩ := bcell hb2
         have hs2 := hb2.size
         (try simp [go_sem] at hs2)
         (first | (have lt2 : w1.heap.size < w2.heap.size := by omega) | skip)
         rw [show tV sz sg = .agg #[.int .i64 1, .int .i64 sz, .bool sg, .bool false, .pointer none, .int .i64 0, .int .i64 0, .slice none 0 0, .pointer none] from rfl]
         have HB2 : Hid (Below w1.heap.size w1 w2) := Lib.hid (by
           first
           | exact (Below.refl _ _).drew.trans hb2
           | exact ((Below.refl _ _).drew.alloc (by simp) _).trans (hb2.mono (by simp))
           | exact ((Below.refl _ _).alloc (Nat.le_refl _) _).trans (hb2.mono (by simp)))
         have hk0' : w2.cell? ⟨w.heap.size, 0, none⟩ = some (.int .i64 how) := by rw [HB2.out.cell (by exact HW1.out)]; exact HK0.out
         have hk1' : w2.cell? ⟨w.heap.size, 1, none⟩ = some (.int .i64 h2) := by rw [HB2.out.cell (by exact HW1.out)]; exact HK1.out
         have hz2 : w.heap.size < w2.heap.size := by have h1 := HB2.out.size; have h2 := HW1.out; omega
         have ne2 : ¬ w.heap.size = w2.heap.size := by omega
         have en2 : ¬ w2.heap.size = w.heap.size := by omega
         skip))
  · go_wp2_with fail
    generalize hW : World.alloc _ _ = W
    have HK : Hid (T9 W w3.heap.size sz sg) := Lib.hid (by rw [← hW]; exact t9_alloc w3 sz sg _)
    have HBW : Hid (Below w.heap.size w W) := Lib.hid (by
      have hb := HB0.out.trans (HB3.out.mono HB0.out.size)
      have h1 := HB0.out.size
      have h2 := HB2.out.size
      have h3 := HB3.out.size
      rw [← hW]
      ((repeat (first | (with_reducible exact hb) | (with_reducible apply Below.setCell) | (with_reducible apply Below.alloc))) <;> first | omega | (simp; omega)))
    have HLT : Hid (w3.heap.size < W.heap.size) := Lib.hid (by rw [← hW]; simp)
    obtain ⟨k0_0, k0_1, k0_2, k0_3, k0_4, k0_5, k0_6, k0_7, k0_8⟩ := HK.out
    clear hW hb2 hc2 hf2 hb3 hc3 hf3 hk0 hk1 hk0' hk1' hk0'' hk1''
    (with_reducible refine (HX.out _).mono ?_)
    rintro e w_1 ⟨rfl, hb1⟩
    have HB1 : Hid (Below W.heap.size W w_1) := Lib.hid ((Below.refl W.heap.size W).trans hb1)
    obtain ⟨k1_0, k1_1, k1_2, k1_3, k1_4, k1_5, k1_6, k1_7, k1_8⟩ := HK.out.below HB1.out (by exact HLT.out)
    clear hb1 k0_0 k0_1 k0_2 k0_3 k0_4 k0_5 k0_6 k0_7 k0_8
    go_wp2_with fail
    (with_reducible refine (HY.out _).mono ?_)
    rintro e w_2 ⟨rfl, hb2⟩
    have HB2 : Hid (Below W.heap.size W w_2) := Lib.hid (HB1.out.trans (hb2.mono HB1.out.size))
    obtain ⟨k2_0, k2_1, k2_2, k2_3, k2_4, k2_5, k2_6, k2_7, k2_8⟩ := HK.out.below HB2.out (by exact HLT.out)
    clear hb2 k1_0 k1_1 k1_2 k1_3 k1_4 k1_5 k1_6 k1_7 k1_8
    go_wp2_with fail
    (with_reducible refine (HBN.out _).mono ?_)
    rintro e w_3 ⟨rfl, hb3⟩
    have HB3 : Hid (Below W.heap.size W w_3) := Lib.hid (HB2.out.trans (hb3.mono HB2.out.size))
    obtain ⟨k3_0, k3_1, k3_2, k3_3, k3_4, k3_5, k3_6, k3_7, k3_8⟩ := HK.out.below HB3.out (by exact HLT.out)
    clear hb3 k2_0 k2_1 k2_2 k2_3 k2_4 k2_5 k2_6 k2_7 k2_8
    go_wp2_with fail
    (with_reducible refine (HRN.out _).mono ?_)
    rintro e w_4 ⟨rfl, hb4⟩
    have HB4 : Hid (Below W.heap.size W w_4) := Lib.hid (HB3.out.trans (hb4.mono HB3.out.size))
    obtain ⟨k4_0, k4_1, k4_2, k4_3, k4_4, k4_5, k4_6, k4_7, k4_8⟩ := HK.out.below HB4.out (by exact HLT.out)
    clear hb4 k3_0 k3_1 k3_2 k3_3 k3_4 k3_5 k3_6 k3_7 k3_8
    go_wp2_with fail
    go_ret
    exact ⟨rfl, HBW.out.trans (HB4.out.mono HBW.out.size)⟩
  · go_wp2_with fail
    generalize hW : World.setCell _ _ _ = W
    have HK : Hid (T9 W w2.heap.size sz sg) := Lib.hid (by rw [← hW]; exact t9_set _ _ _ _ (fun o ho => by rw [hc3 _ _ (by simp)]; rw [World.cell?_alloc_new]; simp; omega))
    have HBW : Hid (Below w.heap.size w W) := Lib.hid (by
      have hb := HB0.out.trans (HB3.out.mono HB0.out.size)
      have h1 := HB0.out.size
      have h2 := HB2.out.size
      have h3 := HB3.out.size
      rw [← hW]
      ((repeat (first | (with_reducible exact hb) | (with_reducible apply Below.setCell) | (with_reducible apply Below.alloc))) <;> first | omega | (simp; omega)))
    have HLT : Hid (w2.heap.size < W.heap.size) := Lib.hid (by rw [← hW]; have := HB3.out.size; simp; omega)
    obtain ⟨k0_0, k0_1, k0_2, k0_3, k0_4, k0_5, k0_6, k0_7, k0_8⟩ := HK.out
    clear hW hb2 hc2 hf2 hb3 hc3 hf3 hk0 hk1 hk0' hk1' hk0'' hk1''
    (with_reducible refine (HX.out _).mono ?_)
    rintro e w_1 ⟨rfl, hb1⟩
    have HB1 : Hid (Below W.heap.size W w_1) := Lib.hid ((Below.refl W.heap.size W).trans hb1)
    obtain ⟨k1_0, k1_1, k1_2, k1_3, k1_4, k1_5, k1_6, k1_7, k1_8⟩ := HK.out.below HB1.out (by exact HLT.out)
    clear hb1 k0_0 k0_1 k0_2 k0_3 k0_4 k0_5 k0_6 k0_7 k0_8
    go_wp2_with fail
    (with_reducible refine (HY.out _).mono ?_)
    rintro e w_2 ⟨rfl, hb2⟩
    have HB2 : Hid (Below W.heap.size W w_2) := Lib.hid (HB1.out.trans (hb2.mono HB1.out.size))
    obtain ⟨k2_0, k2_1, k2_2, k2_3, k2_4, k2_5, k2_6, k2_7, k2_8⟩ := HK.out.below HB2.out (by exact HLT.out)
    clear hb2 k1_0 k1_1 k1_2 k1_3 k1_4 k1_5 k1_6 k1_7 k1_8
    go_wp2_with fail
    (with_reducible refine (HBN.out _).mono ?_)
    rintro e w_3 ⟨rfl, hb3⟩
    have HB3 : Hid (Below W.heap.size W w_3) := Lib.hid (HB2.out.trans (hb3.mono HB2.out.size))
    obtain ⟨k3_0, k3_1, k3_2, k3_3, k3_4, k3_5, k3_6, k3_7, k3_8⟩ := HK.out.below HB3.out (by exact HLT.out)
    clear hb3 k2_0 k2_1 k2_2 k2_3 k2_4 k2_5 k2_6 k2_7 k2_8
    go_wp2_with fail
    (with_reducible refine (HRN.out _).mono ?_)
    rintro e w_4 ⟨rfl, hb4⟩
    have HB4 : Hid (Below W.heap.size W w_4) := Lib.hid (HB3.out.trans (hb4.mono HB3.out.size))
    obtain ⟨k4_0, k4_1, k4_2, k4_3, k4_4, k4_5, k4_6, k4_7, k4_8⟩ := HK.out.below HB4.out (by exact HLT.out)
    clear hb4 k3_0 k3_1 k3_2 k3_3 k3_4 k3_5 k3_6 k3_7 k3_8
    go_wp2_with fail
    go_ret
    exact ⟨rfl, HBW.out.trans (HB4.out.mono HBW.out.size)⟩
  · go_wp2_with fail
    generalize hW : World.setCell _ _ _ = W
    have HK : Hid (T9 W w1.heap.size sz sg) := Lib.hid (by rw [← hW]; exact t9_set _ _ _ _ (fun o ho => by rw [hc3 _ _ lt2, hc2 _ _ (by simp)]; first | (rw [World.cell?_alloc_new]; simp; omega) | (rw [show ∀ (W : World) (a : Addr), W.drew.cell? a = W.cell? a from fun _ _ => rfl, World.cell?_alloc_new]; simp; omega)))
    have HBW : Hid (Below w.heap.size w W) := Lib.hid (by
      have hb := HB0.out.trans (HB3.out.mono HB0.out.size)
      have h1 := HB0.out.size
      have h2 := HB2.out.size
      have h3 := HB3.out.size
      rw [← hW]
      ((repeat (first | (with_reducible exact hb) | (with_reducible apply Below.setCell) | (with_reducible apply Below.alloc))) <;> first | omega | (simp; omega)))
    have HLT : Hid (w1.heap.size < W.heap.size) := Lib.hid (by rw [← hW]; have := HB3.out.size; simp; omega)
    obtain ⟨k0_0, k0_1, k0_2, k0_3, k0_4, k0_5, k0_6, k0_7, k0_8⟩ := HK.out
    clear hW hb2 hc2 hf2 hb3 hc3 hf3 hk0 hk1 hk0' hk1' hk0'' hk1''
    (with_reducible refine (HX.out _).mono ?_)
    rintro e w_1 ⟨rfl, hb1⟩
    have HB1 : Hid (Below W.heap.size W w_1) := Lib.hid ((Below.refl W.heap.size W).trans hb1)
    obtain ⟨k1_0, k1_1, k1_2, k1_3, k1_4, k1_5, k1_6, k1_7, k1_8⟩ := HK.out.below HB1.out (by exact HLT.out)
    clear hb1 k0_0 k0_1 k0_2 k0_3 k0_4 k0_5 k0_6 k0_7 k0_8
    go_wp2_with fail
    (with_reducible refine (HY.out _).mono ?_)
    rintro e w_2 ⟨rfl, hb2⟩
    have HB2 : Hid (Below W.heap.size W w_2) := Lib.hid (HB1.out.trans (hb2.mono HB1.out.size))
    obtain ⟨k2_0, k2_1, k2_2, k2_3, k2_4, k2_5, k2_6, k2_7, k2_8⟩ := HK.out.below HB2.out (by exact HLT.out)
    clear hb2 k1_0 k1_1 k1_2 k1_3 k1_4 k1_5 k1_6 k1_7 k1_8
    go_wp2_with fail
    (with_reducible refine (HBN.out _).mono ?_)
    rintro e w_3 ⟨rfl, hb3⟩
    have HB3 : Hid (Below W.heap.size W w_3) := Lib.hid (HB2.out.trans (hb3.mono HB2.out.size))
    obtain ⟨k3_0, k3_1, k3_2, k3_3, k3_4, k3_5, k3_6, k3_7, k3_8⟩ := HK.out.below HB3.out (by exact HLT.out)
    clear hb3 k2_0 k2_1 k2_2 k2_3 k2_4 k2_5 k2_6 k2_7 k2_8
    go_wp2_with fail
    (with_reducible refine (HRN.out _).mono ?_)
    rintro e w_4 ⟨rfl, hb4⟩
    have HB4 : Hid (Below W.heap.size W w_4) := Lib.hid (HB3.out.trans (hb4.mono HB3.out.size))
    obtain ⟨k4_0, k4_1, k4_2, k4_3, k4_4, k4_5, k4_6, k4_7, k4_8⟩ := HK.out.below HB4.out (by exact HLT.out)
    clear hb4 k3_0 k3_1 k3_2 k3_3 k3_4 k3_5 k3_6 k3_7 k3_8
    go_wp2_with fail
    go_ret
    exact ⟨rfl, HBW.out.trans (HB4.out.mono HBW.out.size)⟩

set_option maxHeartbeats 8000000 in
theorem bins_10 (sz : Nat) (sg : Bool) (how h2 a b x y r : Int) (ok : Bool)
    (CT : ∀ w, Calls Try.prog 8 #[.int .i64 how] w (TypeIs sz sg w))
    (CO : ∀ w, Calls Try.prog 9 #[.int .i64 h2] w (StrIs ⟨#[61, 61]⟩ w))
    (CX : ∀ w, Calls Try.prog 10 #[.agg #[.int .i64 1, .int .i64 sz, .bool sg, .bool false, .pointer none, .int .i64 0, .int .i64 0, .slice none 0 0, .pointer none], .int .i64 a] w (IntIs .i64 x w))
    (CY : ∀ w, Calls Try.prog 10 #[.agg #[.int .i64 1, .int .i64 sz, .bool sg, .bool false, .pointer none, .int .i64 0, .int .i64 0, .slice none 0 0, .pointer none], .int .i64 b] w (IntIs .i64 y w))
    (CB : ∀ w, Calls Try.prog 11 #[.string ⟨#[61, 61]⟩, .agg #[.int .i64 1, .int .i64 sz, .bool sg, .bool false, .pointer none, .int .i64 0, .int .i64 0, .slice none 0 0, .pointer none], .int .i64 x, .int .i64 y] w (PairIs r ok w))
    (CR : ∀ w, Calls Try.prog 12 #[.string ⟨#[61, 61]⟩, .agg #[.int .i64 1, .int .i64 sz, .bool sg, .bool false, .pointer none, .int .i64 0, .int .i64 0, .slice none 0 0, .pointer none], .int .i64 x, .int .i64 y] w (PairIs r ok w))
    (w : World) : Calls Try.prog 3 #[.agg #[.int .i64 how, .int .i64 h2], .int .i64 a, .int .i64 b] w (BoolIs true w) := by
  have HT := Lib.hid CT
  have HO := Lib.hid CO
  have HX := Lib.hid CX
  have HY := Lib.hid CY
  clear CY
  have HBN := Lib.hid CB
  have HRN := Lib.hid CR
  clear CT CO CX CB CR
  go_enter Try.func3, Try.ntmps3
  go_wp2_with fail
  refine (fit_law _).mono ?_
  rintro e w1 ⟨rfl, hb1⟩
  have hk0 : w1.cell? ⟨w.heap.size, 0, none⟩ = some (.int .i64 how) := by rw [hb1.cell (by simp)]; simp
  have hk1 : w1.cell? ⟨w.heap.size, 1, none⟩ = some (.int .i64 h2) := by rw [hb1.cell (by simp)]; simp
  have hw1 : w.heap.size < w1.heap.size := by have := hb1.size; simp at this; omega
  have HB0 := Lib.hid (((Below.refl _ _).alloc (Nat.le_refl _) _).trans (hb1.mono (by simp)))
  have HK0 := Lib.hid hk0
  have HK1 := Lib.hid hk1
  have HW1 := Lib.hid hw1
  have ne1 : ¬ w.heap.size = w1.heap.size := by omega
  have en1 : ¬ w1.heap.size = w.heap.size := by omega
  clear hb1
  go_wp2_with fail
  go_region_held3 (fun w' => w'.cell? ⟨w.heap.size, 0, none⟩ = some (.int .i64 how) ∧ w'.cell? ⟨w.heap.size, 1, none⟩ = some (.int .i64 h2)) (go_keep)
    (first
      | (go_at_call 9
         refine (HO.out _).mono ?_
         rintro e w3 ⟨rfl, hb3⟩
         obtain ⟨hc3, hf3⟩ := bcell hb3
         have hs3 := hb3.size
         (try simp [go_sem] at hs3)
         (first | (have lt3 : w2.heap.size < w3.heap.size := by omega) | skip)
         have HB3 : Hid (Below w1.heap.size w1 w3) := Lib.hid (by
           first
           | exact HB2.out.trans (hb3.mono HB2.out.size)
           | exact (HB2.out.alloc HB2.out.size _).trans (hb3.mono (by have := HB2.out.size; simp; omega)))
         have hk0'' : w3.cell? ⟨w.heap.size, 0, none⟩ = some (.int .i64 how) := by rw [HB3.out.cell (by exact HW1.out)]; exact HK0.out
         have hk1'' : w3.cell? ⟨w.heap.size, 1, none⟩ = some (.int .i64 h2) := by rw [HB3.out.cell (by exact HW1.out)]; exact HK1.out
         have hz3 : w.heap.size < w3.heap.size := by have h1 := HB3.out.size; have h2 := HW1.out; omega
         have ne3 : ¬ w.heap.size = w3.heap.size := by omega
         have en3 : ¬ w3.heap.size = w.heap.size := by omega
         skip)
      | (go_at_call 8
         refine (HT.out _).mono ?_
         rintro e w2 ⟨rfl, hb2⟩
         obtain ⟨hc2, hf2⟩ := bcell hb2
         have hs2 := hb2.size
         (try simp [go_sem] at hs2)
         (first | (have lt2 : w1.heap.size < w2.heap.size := by omega) | skip)
         rw [show tV sz sg = .agg #[.int .i64 1, .int .i64 sz, .bool sg, .bool false, .pointer none, .int .i64 0, .int .i64 0, .slice none 0 0, .pointer none] from rfl]
         have HB2 : Hid (Below w1.heap.size w1 w2) := Lib.hid (by
           first
           | exact (Below.refl _ _).drew.trans hb2
           | exact ((Below.refl _ _).drew.alloc (by simp) _).trans (hb2.mono (by simp))
           | exact ((Below.refl _ _).alloc (Nat.le_refl _) _).trans (hb2.mono (by simp)))
         have hk0' : w2.cell? ⟨w.heap.size, 0, none⟩ = some (.int .i64 how) := by rw [HB2.out.cell (by exact HW1.out)]; exact HK0.out
         have hk1' : w2.cell? ⟨w.heap.size, 1, none⟩ = some (.int .i64 h2) := by rw [HB2.out.cell (by exact HW1.out)]; exact HK1.out
         have hz2 : w.heap.size < w2.heap.size := by have h1 := HB2.out.size; have h2 := HW1.out; omega
         have ne2 : ¬ w.heap.size = w2.heap.size := by omega
         have en2 : ¬ w2.heap.size = w.heap.size := by omega
         skip))
  · go_wp2_with fail
    generalize hW : World.alloc _ _ = W
    have HK : Hid (T9 W w3.heap.size sz sg) := Lib.hid (by rw [← hW]; exact t9_alloc w3 sz sg _)
    have HBW : Hid (Below w.heap.size w W) := Lib.hid (by
      have hb := HB0.out.trans (HB3.out.mono HB0.out.size)
      have h1 := HB0.out.size
      have h2 := HB2.out.size
      have h3 := HB3.out.size
      rw [← hW]
      ((repeat (first | (with_reducible exact hb) | (with_reducible apply Below.setCell) | (with_reducible apply Below.alloc))) <;> first | omega | (simp; omega)))
    have HLT : Hid (w3.heap.size < W.heap.size) := Lib.hid (by rw [← hW]; simp)
    obtain ⟨k0_0, k0_1, k0_2, k0_3, k0_4, k0_5, k0_6, k0_7, k0_8⟩ := HK.out
    clear hW hb2 hc2 hf2 hb3 hc3 hf3 hk0 hk1 hk0' hk1' hk0'' hk1''
    (with_reducible refine (HX.out _).mono ?_)
    rintro e w_1 ⟨rfl, hb1⟩
    have HB1 : Hid (Below W.heap.size W w_1) := Lib.hid ((Below.refl W.heap.size W).trans hb1)
    obtain ⟨k1_0, k1_1, k1_2, k1_3, k1_4, k1_5, k1_6, k1_7, k1_8⟩ := HK.out.below HB1.out (by exact HLT.out)
    clear hb1 k0_0 k0_1 k0_2 k0_3 k0_4 k0_5 k0_6 k0_7 k0_8
    go_wp2_with fail
    (with_reducible refine (HY.out _).mono ?_)
    rintro e w_2 ⟨rfl, hb2⟩
    have HB2 : Hid (Below W.heap.size W w_2) := Lib.hid (HB1.out.trans (hb2.mono HB1.out.size))
    obtain ⟨k2_0, k2_1, k2_2, k2_3, k2_4, k2_5, k2_6, k2_7, k2_8⟩ := HK.out.below HB2.out (by exact HLT.out)
    clear hb2 k1_0 k1_1 k1_2 k1_3 k1_4 k1_5 k1_6 k1_7 k1_8
    go_wp2_with fail
    (with_reducible refine (HBN.out _).mono ?_)
    rintro e w_3 ⟨rfl, hb3⟩
    have HB3 : Hid (Below W.heap.size W w_3) := Lib.hid (HB2.out.trans (hb3.mono HB2.out.size))
    obtain ⟨k3_0, k3_1, k3_2, k3_3, k3_4, k3_5, k3_6, k3_7, k3_8⟩ := HK.out.below HB3.out (by exact HLT.out)
    clear hb3 k2_0 k2_1 k2_2 k2_3 k2_4 k2_5 k2_6 k2_7 k2_8
    go_wp2_with fail
    (with_reducible refine (HRN.out _).mono ?_)
    rintro e w_4 ⟨rfl, hb4⟩
    have HB4 : Hid (Below W.heap.size W w_4) := Lib.hid (HB3.out.trans (hb4.mono HB3.out.size))
    obtain ⟨k4_0, k4_1, k4_2, k4_3, k4_4, k4_5, k4_6, k4_7, k4_8⟩ := HK.out.below HB4.out (by exact HLT.out)
    clear hb4 k3_0 k3_1 k3_2 k3_3 k3_4 k3_5 k3_6 k3_7 k3_8
    go_wp2_with fail
    go_ret
    exact ⟨rfl, HBW.out.trans (HB4.out.mono HBW.out.size)⟩
  · go_wp2_with fail
    generalize hW : World.setCell _ _ _ = W
    have HK : Hid (T9 W w2.heap.size sz sg) := Lib.hid (by rw [← hW]; exact t9_set _ _ _ _ (fun o ho => by rw [hc3 _ _ (by simp)]; rw [World.cell?_alloc_new]; simp; omega))
    have HBW : Hid (Below w.heap.size w W) := Lib.hid (by
      have hb := HB0.out.trans (HB3.out.mono HB0.out.size)
      have h1 := HB0.out.size
      have h2 := HB2.out.size
      have h3 := HB3.out.size
      rw [← hW]
      ((repeat (first | (with_reducible exact hb) | (with_reducible apply Below.setCell) | (with_reducible apply Below.alloc))) <;> first | omega | (simp; omega)))
    have HLT : Hid (w2.heap.size < W.heap.size) := Lib.hid (by rw [← hW]; have := HB3.out.size; simp; omega)
    obtain ⟨k0_0, k0_1, k0_2, k0_3, k0_4, k0_5, k0_6, k0_7, k0_8⟩ := HK.out
    clear hW hb2 hc2 hf2 hb3 hc3 hf3 hk0 hk1 hk0' hk1' hk0'' hk1''
    (with_reducible refine (HX.out _).mono ?_)
    rintro e w_1 ⟨rfl, hb1⟩
    have HB1 : Hid (Below W.heap.size W w_1) := Lib.hid ((Below.refl W.heap.size W).trans hb1)
    obtain ⟨k1_0, k1_1, k1_2, k1_3, k1_4, k1_5, k1_6, k1_7, k1_8⟩ := HK.out.below HB1.out (by exact HLT.out)
    clear hb1 k0_0 k0_1 k0_2 k0_3 k0_4 k0_5 k0_6 k0_7 k0_8
    go_wp2_with fail
    (with_reducible refine (HY.out _).mono ?_)
    rintro e w_2 ⟨rfl, hb2⟩
    have HB2 : Hid (Below W.heap.size W w_2) := Lib.hid (HB1.out.trans (hb2.mono HB1.out.size))
    obtain ⟨k2_0, k2_1, k2_2, k2_3, k2_4, k2_5, k2_6, k2_7, k2_8⟩ := HK.out.below HB2.out (by exact HLT.out)
    clear hb2 k1_0 k1_1 k1_2 k1_3 k1_4 k1_5 k1_6 k1_7 k1_8
    go_wp2_with fail
    (with_reducible refine (HBN.out _).mono ?_)
    rintro e w_3 ⟨rfl, hb3⟩
    have HB3 : Hid (Below W.heap.size W w_3) := Lib.hid (HB2.out.trans (hb3.mono HB2.out.size))
    obtain ⟨k3_0, k3_1, k3_2, k3_3, k3_4, k3_5, k3_6, k3_7, k3_8⟩ := HK.out.below HB3.out (by exact HLT.out)
    clear hb3 k2_0 k2_1 k2_2 k2_3 k2_4 k2_5 k2_6 k2_7 k2_8
    go_wp2_with fail
    (with_reducible refine (HRN.out _).mono ?_)
    rintro e w_4 ⟨rfl, hb4⟩
    have HB4 : Hid (Below W.heap.size W w_4) := Lib.hid (HB3.out.trans (hb4.mono HB3.out.size))
    obtain ⟨k4_0, k4_1, k4_2, k4_3, k4_4, k4_5, k4_6, k4_7, k4_8⟩ := HK.out.below HB4.out (by exact HLT.out)
    clear hb4 k3_0 k3_1 k3_2 k3_3 k3_4 k3_5 k3_6 k3_7 k3_8
    go_wp2_with fail
    go_ret
    exact ⟨rfl, HBW.out.trans (HB4.out.mono HBW.out.size)⟩
  · go_wp2_with fail
    generalize hW : World.setCell _ _ _ = W
    have HK : Hid (T9 W w1.heap.size sz sg) := Lib.hid (by rw [← hW]; exact t9_set _ _ _ _ (fun o ho => by rw [hc3 _ _ lt2, hc2 _ _ (by simp)]; first | (rw [World.cell?_alloc_new]; simp; omega) | (rw [show ∀ (W : World) (a : Addr), W.drew.cell? a = W.cell? a from fun _ _ => rfl, World.cell?_alloc_new]; simp; omega)))
    have HBW : Hid (Below w.heap.size w W) := Lib.hid (by
      have hb := HB0.out.trans (HB3.out.mono HB0.out.size)
      have h1 := HB0.out.size
      have h2 := HB2.out.size
      have h3 := HB3.out.size
      rw [← hW]
      ((repeat (first | (with_reducible exact hb) | (with_reducible apply Below.setCell) | (with_reducible apply Below.alloc))) <;> first | omega | (simp; omega)))
    have HLT : Hid (w1.heap.size < W.heap.size) := Lib.hid (by rw [← hW]; have := HB3.out.size; simp; omega)
    obtain ⟨k0_0, k0_1, k0_2, k0_3, k0_4, k0_5, k0_6, k0_7, k0_8⟩ := HK.out
    clear hW hb2 hc2 hf2 hb3 hc3 hf3 hk0 hk1 hk0' hk1' hk0'' hk1''
    (with_reducible refine (HX.out _).mono ?_)
    rintro e w_1 ⟨rfl, hb1⟩
    have HB1 : Hid (Below W.heap.size W w_1) := Lib.hid ((Below.refl W.heap.size W).trans hb1)
    obtain ⟨k1_0, k1_1, k1_2, k1_3, k1_4, k1_5, k1_6, k1_7, k1_8⟩ := HK.out.below HB1.out (by exact HLT.out)
    clear hb1 k0_0 k0_1 k0_2 k0_3 k0_4 k0_5 k0_6 k0_7 k0_8
    go_wp2_with fail
    (with_reducible refine (HY.out _).mono ?_)
    rintro e w_2 ⟨rfl, hb2⟩
    have HB2 : Hid (Below W.heap.size W w_2) := Lib.hid (HB1.out.trans (hb2.mono HB1.out.size))
    obtain ⟨k2_0, k2_1, k2_2, k2_3, k2_4, k2_5, k2_6, k2_7, k2_8⟩ := HK.out.below HB2.out (by exact HLT.out)
    clear hb2 k1_0 k1_1 k1_2 k1_3 k1_4 k1_5 k1_6 k1_7 k1_8
    go_wp2_with fail
    (with_reducible refine (HBN.out _).mono ?_)
    rintro e w_3 ⟨rfl, hb3⟩
    have HB3 : Hid (Below W.heap.size W w_3) := Lib.hid (HB2.out.trans (hb3.mono HB2.out.size))
    obtain ⟨k3_0, k3_1, k3_2, k3_3, k3_4, k3_5, k3_6, k3_7, k3_8⟩ := HK.out.below HB3.out (by exact HLT.out)
    clear hb3 k2_0 k2_1 k2_2 k2_3 k2_4 k2_5 k2_6 k2_7 k2_8
    go_wp2_with fail
    (with_reducible refine (HRN.out _).mono ?_)
    rintro e w_4 ⟨rfl, hb4⟩
    have HB4 : Hid (Below W.heap.size W w_4) := Lib.hid (HB3.out.trans (hb4.mono HB3.out.size))
    obtain ⟨k4_0, k4_1, k4_2, k4_3, k4_4, k4_5, k4_6, k4_7, k4_8⟩ := HK.out.below HB4.out (by exact HLT.out)
    clear hb4 k3_0 k3_1 k3_2 k3_3 k3_4 k3_5 k3_6 k3_7 k3_8
    go_wp2_with fail
    go_ret
    exact ⟨rfl, HBW.out.trans (HB4.out.mono HBW.out.size)⟩

set_option maxHeartbeats 8000000 in
theorem bins_11 (sz : Nat) (sg : Bool) (how h2 a b x y r : Int) (ok : Bool)
    (CT : ∀ w, Calls Try.prog 8 #[.int .i64 how] w (TypeIs sz sg w))
    (CO : ∀ w, Calls Try.prog 9 #[.int .i64 h2] w (StrIs ⟨#[63]⟩ w))
    (CX : ∀ w, Calls Try.prog 10 #[.agg #[.int .i64 1, .int .i64 sz, .bool sg, .bool false, .pointer none, .int .i64 0, .int .i64 0, .slice none 0 0, .pointer none], .int .i64 a] w (IntIs .i64 x w))
    (CY : ∀ w, Calls Try.prog 10 #[.agg #[.int .i64 1, .int .i64 sz, .bool sg, .bool false, .pointer none, .int .i64 0, .int .i64 0, .slice none 0 0, .pointer none], .int .i64 b] w (IntIs .i64 y w))
    (CB : ∀ w, Calls Try.prog 11 #[.string ⟨#[63]⟩, .agg #[.int .i64 1, .int .i64 sz, .bool sg, .bool false, .pointer none, .int .i64 0, .int .i64 0, .slice none 0 0, .pointer none], .int .i64 x, .int .i64 y] w (PairIs r ok w))
    (CR : ∀ w, Calls Try.prog 12 #[.string ⟨#[63]⟩, .agg #[.int .i64 1, .int .i64 sz, .bool sg, .bool false, .pointer none, .int .i64 0, .int .i64 0, .slice none 0 0, .pointer none], .int .i64 x, .int .i64 y] w (PairIs r ok w))
    (w : World) : Calls Try.prog 3 #[.agg #[.int .i64 how, .int .i64 h2], .int .i64 a, .int .i64 b] w (BoolIs true w) := by
  have HT := Lib.hid CT
  have HO := Lib.hid CO
  have HX := Lib.hid CX
  have HY := Lib.hid CY
  clear CY
  have HBN := Lib.hid CB
  have HRN := Lib.hid CR
  clear CT CO CX CB CR
  go_enter Try.func3, Try.ntmps3
  go_wp2_with fail
  refine (fit_law _).mono ?_
  rintro e w1 ⟨rfl, hb1⟩
  have hk0 : w1.cell? ⟨w.heap.size, 0, none⟩ = some (.int .i64 how) := by rw [hb1.cell (by simp)]; simp
  have hk1 : w1.cell? ⟨w.heap.size, 1, none⟩ = some (.int .i64 h2) := by rw [hb1.cell (by simp)]; simp
  have hw1 : w.heap.size < w1.heap.size := by have := hb1.size; simp at this; omega
  have HB0 := Lib.hid (((Below.refl _ _).alloc (Nat.le_refl _) _).trans (hb1.mono (by simp)))
  have HK0 := Lib.hid hk0
  have HK1 := Lib.hid hk1
  have HW1 := Lib.hid hw1
  have ne1 : ¬ w.heap.size = w1.heap.size := by omega
  have en1 : ¬ w1.heap.size = w.heap.size := by omega
  clear hb1
  go_wp2_with fail
  go_region_held3 (fun w' => w'.cell? ⟨w.heap.size, 0, none⟩ = some (.int .i64 how) ∧ w'.cell? ⟨w.heap.size, 1, none⟩ = some (.int .i64 h2)) (go_keep)
    (first
      | (go_at_call 9
         refine (HO.out _).mono ?_
         rintro e w3 ⟨rfl, hb3⟩
         obtain ⟨hc3, hf3⟩ := bcell hb3
         have hs3 := hb3.size
         (try simp [go_sem] at hs3)
         (first | (have lt3 : w2.heap.size < w3.heap.size := by omega) | skip)
         have HB3 : Hid (Below w1.heap.size w1 w3) := Lib.hid (by
           first
           | exact HB2.out.trans (hb3.mono HB2.out.size)
           | exact (HB2.out.alloc HB2.out.size _).trans (hb3.mono (by have := HB2.out.size; simp; omega)))
         have hk0'' : w3.cell? ⟨w.heap.size, 0, none⟩ = some (.int .i64 how) := by rw [HB3.out.cell (by exact HW1.out)]; exact HK0.out
         have hk1'' : w3.cell? ⟨w.heap.size, 1, none⟩ = some (.int .i64 h2) := by rw [HB3.out.cell (by exact HW1.out)]; exact HK1.out
         have hz3 : w.heap.size < w3.heap.size := by have h1 := HB3.out.size; have h2 := HW1.out; omega
         have ne3 : ¬ w.heap.size = w3.heap.size := by omega
         have en3 : ¬ w3.heap.size = w.heap.size := by omega
         skip)
      | (go_at_call 8
         refine (HT.out _).mono ?_
         rintro e w2 ⟨rfl, hb2⟩
         obtain ⟨hc2, hf2⟩ := bcell hb2
         have hs2 := hb2.size
         (try simp [go_sem] at hs2)
         (first | (have lt2 : w1.heap.size < w2.heap.size := by omega) | skip)
         rw [show tV sz sg = .agg #[.int .i64 1, .int .i64 sz, .bool sg, .bool false, .pointer none, .int .i64 0, .int .i64 0, .slice none 0 0, .pointer none] from rfl]
         have HB2 : Hid (Below w1.heap.size w1 w2) := Lib.hid (by
           first
           | exact (Below.refl _ _).drew.trans hb2
           | exact ((Below.refl _ _).drew.alloc (by simp) _).trans (hb2.mono (by simp))
           | exact ((Below.refl _ _).alloc (Nat.le_refl _) _).trans (hb2.mono (by simp)))
         have hk0' : w2.cell? ⟨w.heap.size, 0, none⟩ = some (.int .i64 how) := by rw [HB2.out.cell (by exact HW1.out)]; exact HK0.out
         have hk1' : w2.cell? ⟨w.heap.size, 1, none⟩ = some (.int .i64 h2) := by rw [HB2.out.cell (by exact HW1.out)]; exact HK1.out
         have hz2 : w.heap.size < w2.heap.size := by have h1 := HB2.out.size; have h2 := HW1.out; omega
         have ne2 : ¬ w.heap.size = w2.heap.size := by omega
         have en2 : ¬ w2.heap.size = w.heap.size := by omega
         skip))
  · go_wp2_with fail
    generalize hW : World.alloc _ _ = W
    have HK : Hid (T9 W w3.heap.size sz sg) := Lib.hid (by rw [← hW]; exact t9_alloc w3 sz sg _)
    have HBW : Hid (Below w.heap.size w W) := Lib.hid (by
      have hb := HB0.out.trans (HB3.out.mono HB0.out.size)
      have h1 := HB0.out.size
      have h2 := HB2.out.size
      have h3 := HB3.out.size
      rw [← hW]
      ((repeat (first | (with_reducible exact hb) | (with_reducible apply Below.setCell) | (with_reducible apply Below.alloc))) <;> first | omega | (simp; omega)))
    have HLT : Hid (w3.heap.size < W.heap.size) := Lib.hid (by rw [← hW]; simp)
    obtain ⟨k0_0, k0_1, k0_2, k0_3, k0_4, k0_5, k0_6, k0_7, k0_8⟩ := HK.out
    clear hW hb2 hc2 hf2 hb3 hc3 hf3 hk0 hk1 hk0' hk1' hk0'' hk1''
    (with_reducible refine (HX.out _).mono ?_)
    rintro e w_1 ⟨rfl, hb1⟩
    have HB1 : Hid (Below W.heap.size W w_1) := Lib.hid ((Below.refl W.heap.size W).trans hb1)
    obtain ⟨k1_0, k1_1, k1_2, k1_3, k1_4, k1_5, k1_6, k1_7, k1_8⟩ := HK.out.below HB1.out (by exact HLT.out)
    clear hb1 k0_0 k0_1 k0_2 k0_3 k0_4 k0_5 k0_6 k0_7 k0_8
    go_wp2_with fail
    (with_reducible refine (HY.out _).mono ?_)
    rintro e w_2 ⟨rfl, hb2⟩
    have HB2 : Hid (Below W.heap.size W w_2) := Lib.hid (HB1.out.trans (hb2.mono HB1.out.size))
    obtain ⟨k2_0, k2_1, k2_2, k2_3, k2_4, k2_5, k2_6, k2_7, k2_8⟩ := HK.out.below HB2.out (by exact HLT.out)
    clear hb2 k1_0 k1_1 k1_2 k1_3 k1_4 k1_5 k1_6 k1_7 k1_8
    go_wp2_with fail
    (with_reducible refine (HBN.out _).mono ?_)
    rintro e w_3 ⟨rfl, hb3⟩
    have HB3 : Hid (Below W.heap.size W w_3) := Lib.hid (HB2.out.trans (hb3.mono HB2.out.size))
    obtain ⟨k3_0, k3_1, k3_2, k3_3, k3_4, k3_5, k3_6, k3_7, k3_8⟩ := HK.out.below HB3.out (by exact HLT.out)
    clear hb3 k2_0 k2_1 k2_2 k2_3 k2_4 k2_5 k2_6 k2_7 k2_8
    go_wp2_with fail
    (with_reducible refine (HRN.out _).mono ?_)
    rintro e w_4 ⟨rfl, hb4⟩
    have HB4 : Hid (Below W.heap.size W w_4) := Lib.hid (HB3.out.trans (hb4.mono HB3.out.size))
    obtain ⟨k4_0, k4_1, k4_2, k4_3, k4_4, k4_5, k4_6, k4_7, k4_8⟩ := HK.out.below HB4.out (by exact HLT.out)
    clear hb4 k3_0 k3_1 k3_2 k3_3 k3_4 k3_5 k3_6 k3_7 k3_8
    go_wp2_with fail
    go_ret
    exact ⟨rfl, HBW.out.trans (HB4.out.mono HBW.out.size)⟩
  · go_wp2_with fail
    generalize hW : World.setCell _ _ _ = W
    have HK : Hid (T9 W w2.heap.size sz sg) := Lib.hid (by rw [← hW]; exact t9_set _ _ _ _ (fun o ho => by rw [hc3 _ _ (by simp)]; rw [World.cell?_alloc_new]; simp; omega))
    have HBW : Hid (Below w.heap.size w W) := Lib.hid (by
      have hb := HB0.out.trans (HB3.out.mono HB0.out.size)
      have h1 := HB0.out.size
      have h2 := HB2.out.size
      have h3 := HB3.out.size
      rw [← hW]
      ((repeat (first | (with_reducible exact hb) | (with_reducible apply Below.setCell) | (with_reducible apply Below.alloc))) <;> first | omega | (simp; omega)))
    have HLT : Hid (w2.heap.size < W.heap.size) := Lib.hid (by rw [← hW]; have := HB3.out.size; simp; omega)
    obtain ⟨k0_0, k0_1, k0_2, k0_3, k0_4, k0_5, k0_6, k0_7, k0_8⟩ := HK.out
    clear hW hb2 hc2 hf2 hb3 hc3 hf3 hk0 hk1 hk0' hk1' hk0'' hk1''
    (with_reducible refine (HX.out _).mono ?_)
    rintro e w_1 ⟨rfl, hb1⟩
    have HB1 : Hid (Below W.heap.size W w_1) := Lib.hid ((Below.refl W.heap.size W).trans hb1)
    obtain ⟨k1_0, k1_1, k1_2, k1_3, k1_4, k1_5, k1_6, k1_7, k1_8⟩ := HK.out.below HB1.out (by exact HLT.out)
    clear hb1 k0_0 k0_1 k0_2 k0_3 k0_4 k0_5 k0_6 k0_7 k0_8
    go_wp2_with fail
    (with_reducible refine (HY.out _).mono ?_)
    rintro e w_2 ⟨rfl, hb2⟩
    have HB2 : Hid (Below W.heap.size W w_2) := Lib.hid (HB1.out.trans (hb2.mono HB1.out.size))
    obtain ⟨k2_0, k2_1, k2_2, k2_3, k2_4, k2_5, k2_6, k2_7, k2_8⟩ := HK.out.below HB2.out (by exact HLT.out)
    clear hb2 k1_0 k1_1 k1_2 k1_3 k1_4 k1_5 k1_6 k1_7 k1_8
    go_wp2_with fail
    (with_reducible refine (HBN.out _).mono ?_)
    rintro e w_3 ⟨rfl, hb3⟩
    have HB3 : Hid (Below W.heap.size W w_3) := Lib.hid (HB2.out.trans (hb3.mono HB2.out.size))
    obtain ⟨k3_0, k3_1, k3_2, k3_3, k3_4, k3_5, k3_6, k3_7, k3_8⟩ := HK.out.below HB3.out (by exact HLT.out)
    clear hb3 k2_0 k2_1 k2_2 k2_3 k2_4 k2_5 k2_6 k2_7 k2_8
    go_wp2_with fail
    (with_reducible refine (HRN.out _).mono ?_)
    rintro e w_4 ⟨rfl, hb4⟩
    have HB4 : Hid (Below W.heap.size W w_4) := Lib.hid (HB3.out.trans (hb4.mono HB3.out.size))
    obtain ⟨k4_0, k4_1, k4_2, k4_3, k4_4, k4_5, k4_6, k4_7, k4_8⟩ := HK.out.below HB4.out (by exact HLT.out)
    clear hb4 k3_0 k3_1 k3_2 k3_3 k3_4 k3_5 k3_6 k3_7 k3_8
    go_wp2_with fail
    go_ret
    exact ⟨rfl, HBW.out.trans (HB4.out.mono HBW.out.size)⟩
  · go_wp2_with fail
    generalize hW : World.setCell _ _ _ = W
    have HK : Hid (T9 W w1.heap.size sz sg) := Lib.hid (by rw [← hW]; exact t9_set _ _ _ _ (fun o ho => by rw [hc3 _ _ lt2, hc2 _ _ (by simp)]; first | (rw [World.cell?_alloc_new]; simp; omega) | (rw [show ∀ (W : World) (a : Addr), W.drew.cell? a = W.cell? a from fun _ _ => rfl, World.cell?_alloc_new]; simp; omega)))
    have HBW : Hid (Below w.heap.size w W) := Lib.hid (by
      have hb := HB0.out.trans (HB3.out.mono HB0.out.size)
      have h1 := HB0.out.size
      have h2 := HB2.out.size
      have h3 := HB3.out.size
      rw [← hW]
      ((repeat (first | (with_reducible exact hb) | (with_reducible apply Below.setCell) | (with_reducible apply Below.alloc))) <;> first | omega | (simp; omega)))
    have HLT : Hid (w1.heap.size < W.heap.size) := Lib.hid (by rw [← hW]; have := HB3.out.size; simp; omega)
    obtain ⟨k0_0, k0_1, k0_2, k0_3, k0_4, k0_5, k0_6, k0_7, k0_8⟩ := HK.out
    clear hW hb2 hc2 hf2 hb3 hc3 hf3 hk0 hk1 hk0' hk1' hk0'' hk1''
    (with_reducible refine (HX.out _).mono ?_)
    rintro e w_1 ⟨rfl, hb1⟩
    have HB1 : Hid (Below W.heap.size W w_1) := Lib.hid ((Below.refl W.heap.size W).trans hb1)
    obtain ⟨k1_0, k1_1, k1_2, k1_3, k1_4, k1_5, k1_6, k1_7, k1_8⟩ := HK.out.below HB1.out (by exact HLT.out)
    clear hb1 k0_0 k0_1 k0_2 k0_3 k0_4 k0_5 k0_6 k0_7 k0_8
    go_wp2_with fail
    (with_reducible refine (HY.out _).mono ?_)
    rintro e w_2 ⟨rfl, hb2⟩
    have HB2 : Hid (Below W.heap.size W w_2) := Lib.hid (HB1.out.trans (hb2.mono HB1.out.size))
    obtain ⟨k2_0, k2_1, k2_2, k2_3, k2_4, k2_5, k2_6, k2_7, k2_8⟩ := HK.out.below HB2.out (by exact HLT.out)
    clear hb2 k1_0 k1_1 k1_2 k1_3 k1_4 k1_5 k1_6 k1_7 k1_8
    go_wp2_with fail
    (with_reducible refine (HBN.out _).mono ?_)
    rintro e w_3 ⟨rfl, hb3⟩
    have HB3 : Hid (Below W.heap.size W w_3) := Lib.hid (HB2.out.trans (hb3.mono HB2.out.size))
    obtain ⟨k3_0, k3_1, k3_2, k3_3, k3_4, k3_5, k3_6, k3_7, k3_8⟩ := HK.out.below HB3.out (by exact HLT.out)
    clear hb3 k2_0 k2_1 k2_2 k2_3 k2_4 k2_5 k2_6 k2_7 k2_8
    go_wp2_with fail
    (with_reducible refine (HRN.out _).mono ?_)
    rintro e w_4 ⟨rfl, hb4⟩
    have HB4 : Hid (Below W.heap.size W w_4) := Lib.hid (HB3.out.trans (hb4.mono HB3.out.size))
    obtain ⟨k4_0, k4_1, k4_2, k4_3, k4_4, k4_5, k4_6, k4_7, k4_8⟩ := HK.out.below HB4.out (by exact HLT.out)
    clear hb4 k3_0 k3_1 k3_2 k3_3 k3_4 k3_5 k3_6 k3_7 k3_8
    go_wp2_with fail
    go_ret
    exact ⟨rfl, HBW.out.trans (HB4.out.mono HBW.out.size)⟩
end Go.Proofs.Ytbflijjkdndefaa
