import Derived.Test.YtoajcggiccfaiaaDoorDsE
import Derived.Test.YtoajcggiccfaiaaDoorDsQ
import Derived.Test.YtoajcggiccfaiaaDoorCtCR
import Derived.Test.YtoajcggiccfaiaaDoorCtCT
import Derived.Test.YtoajcggiccfaiaaDoorCtP
import Derived.Deep.RegionHeld3
namespace Go.Proofs.YtoajcggiccfaiaaDoor
open Go Go.RowKit
set_option linter.unusedVariables false
set_option linter.unusedSimpArgs false

theorem Ok9.o99 {t : Ty} : ∀ {d : Nat}, Ok9 t d → Ok99 t := by
  induction t with
  | arr t m ih => intro d h; exact ⟨⟨h.1, h.2.1⟩, ih h.2.2.2⟩
  | int k a b => exact fun h => trivial
  | void => exact fun h => trivial
  | ptr t ih => intro d h; exact ih h.2
  | st k => exact fun h => trivial
theorem dec_len (m : Nat) (h : m < 100) : (Lib.decDigits m).length ≤ 20 := by
  by_cases h1 : m < 10
  · rw [dec1 m h1]; simp
  · rw [dec2 m h1, dec1 _ (show m / 10 < 10 by omega), dec1 _ (show m % 10 < 10 by omega)]; simp
theorem showL_len (n : Nat) (NM : Nat → ByteArray) (hs : ∀ k, k < n → (NM k).size ≤ 1048576) (t : Ty) : ∀ d, Ok9 t d → (showL n NM t).length ≤ 1048600 + 30 * d := by
  induction t with
  | void => intro d _; simp [showL]; omega
  | int k a b => intro d _; have := intL_len k a b; simp only [showL]; omega
  | ptr t ih => intro d h; have := ih (d - 1) h.2; have := h.1; simp [showL]; omega
  | arr t m ih =>
    intro d h
    have h1 := ih (d - 1) h.2.2.2
    have h2 := dec_len m.toNat (by have := h.1; have := h.2.1; omega)
    have h3 := h.2.2.1
    simp [showL]; omega
  | st k =>
    intro d _
    unfold showL
    split
    · rename_i hk
      have h1 := hs k.toNat (by omega)
      have h2 : (NM k.toNat).data.toList.length = (NM k.toNat).size := by simp
      rw [List.length_append, h2]
      simp; omega
    · simp; omega

set_option maxRecDepth 100000 in
set_option maxHeartbeats 16000000 in
theorem sizes_any (lv : Value) (w : World) (hbuild : ∀ w1 : World, Below w.heap.size w w1 → Calls Tryd.prog 6 #[lv] w1 (BuildRes w1.heap.size w1))
    (x : Int) (a : Option Addr) (len cap : Nat) (hlen : len ≤ 9223372036854775807) (hs : Steps w a len) (hbl : 0 < len → ∀ x, a = some x → x.block < w.heap.size) :
    Calls Tryd.prog 3 #[lv, .agg #[.int .i64 x, .slice a len cap]] w (BoolRes true w) := by
  have HBD := Lib.hid hbuild
  have HST := Lib.hid hs
  have HBL := Lib.hid hbl
  clear hbuild hs hbl
  go_enter Tryd.func3, Tryd.ntmps3
  go_wp2_with fail
  refine (fit_any _).mono ?_
  rintro e w1 ⟨rfl, hb1⟩
  have HB1 : Hid (Below w.heap.size w w1) := Lib.hid (((Below.refl _ _).alloc (Nat.le_refl _) _).trans (hb1.mono (by simp)))
  have x0 : w1.cell? ⟨w.heap.size, 0, none⟩ = some (.int .i64 x) := by rw [hb1.cell (by simp)]; simp
  have x1 : w1.cell? ⟨w.heap.size, 1, none⟩ = some (.slice a len cap) := by rw [hb1.cell (by simp)]; simp
  have hw1 : w.heap.size < w1.heap.size := by have := hb1.size; simp at this; omega
  clear hb1
  go_wp2_with fail
  (with_reducible refine (HBD.out w1 HB1.out).mono ?_)
  rintro e W ⟨mv, ok, rfl, hbW, hok⟩
  have y0 : W.cell? ⟨w.heap.size, 0, none⟩ = some (.int .i64 x) := by rw [hbW.cell (by exact hw1)]; exact x0
  have y1 : W.cell? ⟨w.heap.size, 1, none⟩ = some (.slice a len cap) := by rw [hbW.cell (by exact hw1)]; exact x1
  have HBW : Hid (Below w.heap.size w W) := Lib.hid (HB1.out.trans (hbW.mono HB1.out.size))
  obtain ⟨tb, htb⟩ : ∃ tb, tb = w1.heap.size := ⟨_, rfl⟩
  rw [← htb] at hok ⊢
  have HOK := Lib.hid hok
  clear hok hbW htb x0 x1
  go_wp2_with fail
  (with_reducible refine (type_ok9 x a len cap hlen W (HST.out.below HBL.out HBW.out) (fun h x hx => Nat.lt_of_lt_of_le (HBL.out h x hx) HBW.out.size)).mono ?_)
  rintro e w3 ⟨t, el, is, d, rfl, hel, hb3, h9, hd6⟩
  have H9 := Lib.hid h9
  have HEL := Lib.hid hel
  have HB3 := Lib.hid hb3
  clear hel hb3 h9 y0 y1
  unfold tyV
  cases ok
  · go_wp2_with fail
    go_ret
    exact ⟨rfl, (HBW.out.trans (HB3.out.mono HBW.out.size)).alloc (by have := HBW.out.size; have := HB3.out.size; omega) _⟩
  cases is
  · go_wp2_with fail
    go_ret
    exact ⟨rfl, (HBW.out.trans (HB3.out.mono HBW.out.size)).alloc (by have := HBW.out.size; have := HB3.out.size; omega) _⟩
  obtain ⟨n, va, lb, lc, la, SN, CT, NM, TY, SZ, AL, FA, FN, FC, GP, ELP, RV, G, CC, ELR, rfl, hnil, hsizes, hboth⟩ := HOK.out rfl
  have hn20 := hboth.m.n20
  obtain ⟨ta, trb, trc, rfl, htab⟩ := hboth.w1.tab
  have hrt := hboth.r.tab (fun b hb => hb.2.1)
  have htl := World.block_lt_of_cell? W _ hboth.w1.t
  simp at htl
  have hlay := hboth.m
  have hsz : ∀ j, j < n → 0 ≤ SZ j ∧ SZ j ≤ 1099511627776 := fun j hj => ⟨(hlay.range j hj).2.1, by have := (hlay.range j hj).2.2; omega⟩
  have hal : ∀ j, j < n → 1 ≤ AL j ∧ AL j ≤ 8 := fun j hj => (hlay.range j hj).1
  have hokt := H9.out.ok
  have ho99 := H9.out.o99
  have hln : (showL n SN t).length ≤ 1000000000 := by have := showL_len n SN hsizes t d H9.out; omega
  clear HOK
  go_upto_region 7 with fail
  generalize hY : w3.alloc (.cells #[.int .i64 t.kind, .int .i64 t.size, .bool t.sg, .bool t.sc, .pointer el, .int .i64 t.len, .int .i64 t.num, .slice none 0 0, .pointer none] 34) = Y
  have hbY : Below w3.heap.size w3 Y := by rw [← hY]; exact (Below.refl _ _).alloc (Nat.le_refl _) _
  have hsY : Y.heap.size = w3.heap.size + 1 := by rw [← hY]; simp
  have hxc : Cells9 Y w3.heap.size 0 t el := by rw [← hY]; exact cells9_alloc _ _ _ _
  obtain ⟨X, hX⟩ : ∃ X, X = w3.heap.size := ⟨_, rfl⟩
  rw [← hX] at hxc hsY
  rw [← hX]
  have HXC := Lib.hid hxc
  have HBY : Hid (Below w.heap.size w Y) := Lib.hid ((HBW.out.trans (HB3.out.mono HBW.out.size)).trans (hbY.mono (by have := HBW.out.size; have := HB3.out.size; omega)))
  have hWY : Below W.heap.size W Y := HB3.out.trans (hbY.mono HB3.out.size)
  have htY : TabN Y tb trb n trc ta SN FA FN FC SZ AL := htab.below htl hWY
  have hrY : RTab Y lb n lc la SN RV G CT CC TY ELR := hrt.below hWY
  have htlY : tb < Y.heap.size := Nat.lt_of_lt_of_le htl hWY.size
  have heY : ElAt Y 0 Y.heap.size t el := ((HEL.out.below hbY (Nat.le_refl _)).mono (Nat.zero_le _) hbY.size)
  have hXY : X < Y.heap.size := by omega
  have hc1 := fun (w' : World) (hb : Below Y.heap.size Y w') => size_any tb trb n trc (by omega) ta SN FA FN FC SZ AL hsz t hokt el w' (htY.below htlY hb) ((heY.below hb (Nat.le_refl _)).mono (Nat.le_refl _) hb.size)
  have hst := ref_st lb n lc la SN RV G CT CC TY ELR (by omega) n (Nat.le_refl _) NM SZ AL hlay
  have hr := fun (w' : World) (hb : Below Y.heap.size Y w') => ref_ty lb n lc la SN RV G CT CC TY ELR (by omega) n (Nat.le_refl _) SZ AL hsz hal hst t hokt (ref_all_of n _) el w' (hrY.below hb) ((heY.below hb (Nat.le_refl _)).mono (Nat.le_refl _) hb.size)
  have hc2 := fun w' hb => (hr w' hb).1
  have hc4 := fun w' hb => (hr w' hb).2
  have hc3 := fun (w' : World) (hb : Below Y.heap.size Y w') => align_any tb trb n trc (by omega) ta SN FA FN FC SZ AL t el w' (htY.below htlY hb) ((heY.below hb (Nat.le_refl _)).mono (Nat.le_refl _) hb.size)
  have hc5 := fun (w' : World) (hb : Below Y.heap.size Y w') => show_any tb trb n trc (by omega) ta SN FA FN FC SZ AL t ho99 el w' (Nat.lt_of_lt_of_le htlY hb.size) (htY.below htlY hb) ((heY.below hb (Nat.le_refl _)).mono (Nat.le_refl _) hb.size) hln
  have hc6 := fun (w' : World) (hb : Below Y.heap.size Y w') => rshow_any lb n lc (by omega) la SN RV G CT CC TY ELR t ho99 hln el w' (hrY.below hb) ((heY.below hb (Nat.le_refl _)).mono (Nat.le_refl _) hb.size)
  unfold tyV at hc1 hc2 hc3 hc4 hc5 hc6
  have C1 := Lib.hid hc1
  have C2 := Lib.hid hc2
  have C3 := Lib.hid hc3
  have C4 := Lib.hid hc4
  have C5 := Lib.hid hc5
  have C6 := Lib.hid hc6
  obtain ⟨u0, u1, u2, u3, u4, u5, u6, u7, u8⟩ := hxc
  simp only [Nat.zero_add] at u1 u2 u3 u4 u5 u6 u7 u8
  generalize sizeM n SZ t = sz at C1 C2
  generalize alignM n AL t = al at C3 C4
  generalize showL n SN t = sl at C5 C6
  clear hc1 hc2 hc3 hc4 hc5 hc6 hr hst hY hbY hX hWY htY hrY heY hln hokt ho99 hsz hal hlay htab hrt hboth hsizes hnil H9 HEL
  go_region_held3 (fun w' => w'.cell? ⟨X, 0, none⟩ = some (.int .i64 t.kind) ∧ w'.cell? ⟨X, 1, none⟩ = some (.int .i64 t.size) ∧ w'.cell? ⟨X, 2, none⟩ = some (.bool t.sg) ∧ w'.cell? ⟨X, 3, none⟩ = some (.bool t.sc) ∧ w'.cell? ⟨X, 4, none⟩ = some (.pointer el) ∧ w'.cell? ⟨X, 5, none⟩ = some (.int .i64 t.len) ∧ w'.cell? ⟨X, 6, none⟩ = some (.int .i64 t.num) ∧ w'.cell? ⟨X, 7, none⟩ = some (.slice none 0 0) ∧ w'.cell? ⟨X, 8, none⟩ = some (.pointer none)) (go_keep)
    (first
      | (go_at_call 13
         (with_reducible refine (C6.out _ HD5.out).mono ?_)
         rintro e v6 ⟨rfl, hb6⟩
         have HD6 : Hid (Below Y.heap.size Y v6) := Lib.hid (HD5.out.trans (hb6.mono HD5.out.size))
         obtain ⟨d60, d61, d62, d63, d64, d65, d66, d67, d68⟩ := HXC.out.below HD6.out hXY
         simp only [Nat.zero_add] at d61 d62 d63 d64 d65 d66 d67 d68
         clear hb6 d50 d51 d52 d53 d54 d55 d56 d57 d58)
      | (go_at_call 12
         (with_reducible refine (C5.out _ HD4.out).mono ?_)
         rintro e v5 ⟨rfl, hb5⟩
         have HD5 : Hid (Below Y.heap.size Y v5) := Lib.hid (HD4.out.trans (hb5.mono HD4.out.size))
         obtain ⟨d50, d51, d52, d53, d54, d55, d56, d57, d58⟩ := HXC.out.below HD5.out hXY
         simp only [Nat.zero_add] at d51 d52 d53 d54 d55 d56 d57 d58
         clear hb5 d40 d41 d42 d43 d44 d45 d46 d47 d48)
      | (go_at_call 11
         (with_reducible refine (C4.out _ HD3.out).mono ?_)
         rintro e v4 ⟨rfl, hb4⟩
         have HD4 : Hid (Below Y.heap.size Y v4) := Lib.hid (HD3.out.trans (hb4.mono HD3.out.size))
         obtain ⟨d40, d41, d42, d43, d44, d45, d46, d47, d48⟩ := HXC.out.below HD4.out hXY
         simp only [Nat.zero_add] at d41 d42 d43 d44 d45 d46 d47 d48
         clear hb4 d30 d31 d32 d33 d34 d35 d36 d37 d38)
      | (go_at_call 10
         (with_reducible refine (C3.out _ HD2.out).mono ?_)
         rintro e v3 ⟨rfl, hb3⟩
         have HD3 : Hid (Below Y.heap.size Y v3) := Lib.hid (HD2.out.trans (hb3.mono HD2.out.size))
         obtain ⟨d30, d31, d32, d33, d34, d35, d36, d37, d38⟩ := HXC.out.below HD3.out hXY
         simp only [Nat.zero_add] at d31 d32 d33 d34 d35 d36 d37 d38
         clear hb3 d20 d21 d22 d23 d24 d25 d26 d27 d28)
      | (go_at_call 9
         (with_reducible refine (C2.out _ HD1.out).mono ?_)
         rintro e v2 ⟨rfl, hb2⟩
         have HD2 : Hid (Below Y.heap.size Y v2) := Lib.hid (HD1.out.trans (hb2.mono HD1.out.size))
         obtain ⟨d20, d21, d22, d23, d24, d25, d26, d27, d28⟩ := HXC.out.below HD2.out hXY
         simp only [Nat.zero_add] at d21 d22 d23 d24 d25 d26 d27 d28
         clear hb2 d10 d11 d12 d13 d14 d15 d16 d17 d18)
      | (go_at_call 8
         (with_reducible refine (C1.out _ ((Below.refl Y.heap.size Y).drew)).mono ?_)
         rintro e v1 ⟨rfl, hb1⟩
         have HD1 : Hid (Below Y.heap.size Y v1) := Lib.hid (((Below.refl Y.heap.size Y).drew).trans (hb1.mono (Nat.le_refl _)))
         obtain ⟨d10, d11, d12, d13, d14, d15, d16, d17, d18⟩ := HXC.out.below HD1.out hXY
         simp only [Nat.zero_add] at d11 d12 d13 d14 d15 d16 d17 d18
         clear hb1))
  go_wp2_with fail
  go_ret
  exact ⟨rfl, HBY.out.trans (HD6.out.mono HBY.out.size)⟩
end Go.Proofs.YtoajcggiccfaiaaDoor
