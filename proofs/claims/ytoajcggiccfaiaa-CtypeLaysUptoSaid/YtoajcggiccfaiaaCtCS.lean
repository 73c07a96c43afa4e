import Derived.Test.YtoajcggiccfaiaaCtCRD
import Derived.Test.YtoajcggiccfaiaaCtX
import Derived.Test.YtoajcggiccfaiaaCtCM
import Derived.Test.YtoajcggiccfaiaaCtCN
namespace Go.Proofs.Ytoajcggiccfaiaa
open Go Go.RowKit
set_option linter.unusedVariables false
set_option linter.unusedSimpArgs false

set_option maxRecDepth 100000 in
set_option maxHeartbeats 16000000 in
theorem lays_any (lv : Value) (w : World) (hbuild : ∀ w1 : World, Below w.heap.size w w1 → Calls Try.prog 7 #[lv] w1 (BuildRes w1.heap.size w1)) :
    Calls Try.prog 3 #[lv] w (BoolRes true w) := by
  have HBD := Lib.hid hbuild
  clear hbuild
  go_enter Try.func3, Try.ntmps3
  go_wp2_with fail
  refine (fit_any _).mono ?_
  rintro e w1 ⟨rfl, hb1⟩
  have HB1 := Lib.hid hb1
  clear hb1
  go_wp2_with fail
  (with_reducible refine (HBD.out w1 HB1.out).mono ?_)
  rintro e W ⟨mv, ok, rfl, hbW, hok⟩
  have HBW : Hid (Below w.heap.size w W) := Lib.hid (HB1.out.trans (hbW.mono HB1.out.size))
  obtain ⟨tb, htb⟩ : ∃ tb, tb = w1.heap.size := ⟨_, rfl⟩
  rw [← htb] at hok ⊢
  have HOK := Lib.hid hok
  clear hok hbW htb
  cases ok
  · go_wp2_with fail
    go_ret
    exact ⟨rfl, HBW.out⟩
  · obtain ⟨n, va, lb, lc, la, SN, CT, NM, TY, SZ, AL, FA, FN, FC, GP, ELP, RV, G, CC, ELR, rfl, hnil, hsizes, hboth⟩ := HOK.out rfl
    have HSIZES := Lib.hid hsizes
    have hn20 := hboth.m.n20
    obtain ⟨ta, trb, trc, rfl, htab⟩ := hboth.w1.tab
    have HTAB := Lib.hid htab
    have HBOTH := Lib.hid hboth
    have HRT := Lib.hid (hboth.r.tab (fun b hb => hb.2.1))
    have htl := World.block_lt_of_cell? W _ hboth.w1.t
    simp at htl
    clear HOK hsizes hnil htab hboth
    go_wp2_with fail
    go_loopw [39] (fun vi wr => ∃ i : Nat, vi = .int .i64 i ∧ i ≤ n ∧ Below W.heap.size W wr) (fun vi _ => n - (intOf vi).toNat)
    case atStart => exact ⟨0, rfl, by omega, Below.refl _ _⟩
    case round =>
      obtain ⟨i, rfl, hi, hb⟩ := hrel
      obtain ⟨w2, hw2⟩ : ∃ w2, w2 = wr := ⟨_, rfl⟩
      rw [← hw2] at hb
      rw [← hw2]
      clear hw2
      have HB2 := Lib.hid hb
      by_cases hlt : i < n
      · have hla := HBOTH.out.r.a (by omega)
        subst hla
        have hil : (i : Int) < n := by omega
        have hrt2 := HRT.out.below hb
        obtain ⟨c0, c1, c2⟩ := hrt2.r i hlt
        have hnr := HBOTH.out.r.n i hlt
        obtain ⟨gN, hg1, hg2, hg3⟩ := hnr.2 (by have := (HBOTH.out.m.c i hlt).1; omega)
        obtain ⟨VC, hVC⟩ : ∃ VC, VC = (RV i).2.2 := ⟨_, rfl⟩
        rw [hg1, hnr.1, ← hVC] at c1
        have HNG := Lib.hid hg2.2.1
        have HRT2 := Lib.hid hrt2
        have HTAB2 := Lib.hid (HTAB.out.below htl hb)
        obtain ⟨C, hC⟩ : ∃ C, C = CT i := ⟨_, rfl⟩
        have hC1 := (HBOTH.out.m.c i hlt).1
        have hC2 := (HBOTH.out.m.c i hlt).2
        rw [← hC] at hC1 hC2 c2 c1 hg3
        have HNMS := Lib.hid hg3
        clear hnr hg1 hg2 hg3 hVC
        have HC := Lib.hid hC
        clear hb hrt2 hC
        go_wp2_with fail
        generalize hV : w2.alloc (.cells #[.string (SN i), .slice (some ⟨gN, 0, none⟩) C VC, .slice (some ⟨G i, 0, none⟩) C (CC i)] 31) = V
        have hbV : Below w2.heap.size w2 V := by rw [← hV]; exact (Below.refl _ _).alloc (Nat.le_refl _) _
        have hsV : V.heap.size = w2.heap.size + 1 := by rw [← hV]; simp
        obtain ⟨RB, hRB⟩ : ∃ RB, RB = w2.heap.size := ⟨_, rfl⟩
        have v1 : V.cell? ⟨w2.heap.size, 1, none⟩ = some (.slice (some ⟨gN, 0, none⟩) C VC) := by rw [← hV]; simp
        have v2 : V.cell? ⟨w2.heap.size, 2, none⟩ = some (.slice (some ⟨G i, 0, none⟩) C (CC i)) := by rw [← hV]; simp
        rw [← hRB] at v1 v2 hsV
        rw [← hRB]
        have HBV := Lib.hid (HB2.out.trans (hbV.mono HB2.out.size))
        have HSV := Lib.hid hsV
        have HV1 := Lib.hid v1
        have HV2 := Lib.hid v2
        have HTABV := Lib.hid (HTAB.out.below htl (HB2.out.trans (hbV.mono HB2.out.size)))
        clear hV hbV hsV hRB c0 c1 c2
        refine (find_yes tb trb n trc (by omega) ta SN FA FN FC SZ AL (SN i) i hlt (by simp) (HBOTH.out.d i hlt) V HTABV.out).mono ?_
        rintro e w3 ⟨rfl, hb3⟩
        have HB3 := Lib.hid (HBV.out.trans (hb3.mono HBV.out.size))
        have HBV3 := Lib.hid hb3
        clear hb3 v1 v2
        go_wp2_with fail
        have hpa := HBOTH.out.p.a i hlt
        have hgr := (HBOTH.out.p.r i hlt).below HB3.out (by exact hpa.2.2.2.1)
        rw [← HC.out] at hgr
        refine (fields_any tb trb n trc (by omega) ta SN FA FN FC SZ AL i hlt (GP i) C hpa.1 (by rw [hpa.2.1, HC.out]) hC1 hC2 (NM i) (TY i) (ELP i) (offT i SZ AL (TY i)) w3 (HTAB.out.below htl HB3.out) (Nat.lt_of_lt_of_le hpa.2.2.2.1 HB3.out.size) hgr (fun j hj => ((HBOTH.out.p.t i hlt j (by rw [← HC.out]; exact hj)).elAt.below HB3.out (Nat.le_refl _)).mono (Nat.le_refl _) HB3.out.size)).mono ?_
        rintro e w4 ⟨gf, cf, ELF, rfl, hgf, helf, hgfl, hb4⟩
        have HB4 := Lib.hid (HB3.out.trans (hb4.mono HB3.out.size))
        have HGF := Lib.hid hgf
        have HELF := Lib.hid helf
        have hbv4 : Below V.heap.size V w4 := HBV3.out.trans (hb4.mono HBV3.out.size)
        have HBV4 := Lib.hid hbv4
        have q1 : w4.cell? ⟨RB, 1, none⟩ = some (.slice (some ⟨gN, 0, none⟩) C VC) := by rw [hbv4.cell (by simp [HSV.out])]; exact HV1.out
        have q2 : w4.cell? ⟨RB, 2, none⟩ = some (.slice (some ⟨G i, 0, none⟩) C (CC i)) := by rw [hbv4.cell (by simp [HSV.out])]; exact HV2.out
        have HQ1 := Lib.hid q1
        have HQ2 := Lib.hid q2
        have hRB4 : RB < w4.heap.size := by have := hbv4.size; have := HSV.out; omega
        clear hgf helf hb4 hbv4 hgr hpa
        go_wp2_with fail
        have hlay := HBOTH.out.m
        have hst := ref_st lb n lc (some ⟨lb, 0, none⟩) SN RV G CT CC TY ELR (by omega) n (Nat.le_refl _) NM SZ AL hlay
        have HAT0 := Lib.hid (fun k (hk : k < C) => fun (w : World) hw => (ref_end lb n lc (some ⟨lb, 0, none⟩) SN RV G CT CC TY ELR (by omega) i hlt (by rw [← HC.out]; omega) SZ AL (fun j hj => ⟨(hlay.range j (by omega)).2.1, by have := (hlay.range j (by omega)).2.2; omega⟩) (fun j hj => (hlay.range j (by omega)).1) (fun j hj => hst j (by omega)) (fun j hj => ⟨hlay.ok i hlt j hj, ref_of_size i n SZ _ (hlay.ok i hlt j hj) ((hlay.r i hlt).s j hj)⟩) k (by rw [← HC.out]; omega) w hw).2 (by rw [← HC.out]; exact hk))
        clear hlay hst q1 q2
        go_loopw [71] (fun vi wr => ∃ k : Nat, vi = .int .i64 k ∧ k ≤ C ∧ Below w4.heap.size w4 wr) (fun vi _ => C - (intOf vi).toNat)
        case atStart => exact ⟨0, rfl, by omega, Below.refl _ _⟩
        case round =>
          obtain ⟨k, rfl, hk, hb⟩ := hrel
          obtain ⟨w5, hw5⟩ : ∃ w5, w5 = wr := ⟨_, rfl⟩
          rw [← hw5] at hb
          rw [← hw5]
          clear hw5
          have HB5 := Lib.hid hb
          by_cases hkl : k < C
          · obtain ⟨h0, h1, h2, h3, h4, h5, h6, h7, h8, h9, h10⟩ := (HGF.out.below hb hgfl) k hkl
            have HAT1 := Lib.hid (HAT0.out k hkl)
            obtain ⟨OF, hOF⟩ : ∃ OF, OF = offT i SZ AL (TY i) k := ⟨_, rfl⟩
            rw [← hOF] at h10 HAT1
            have HOF := Lib.hid hOF
            have hkli : (k : Int) < C := by omega
            clear hb hOF
            go_wp2_with fail
            generalize hU : w5.alloc (.cells #[.string (NM i k), .int .i64 (TY i k).kind, .int .i64 (TY i k).size, .bool (TY i k).sg, .bool (TY i k).sc, .pointer (ELF k), .int .i64 (TY i k).len, .int .i64 (TY i k).num, .slice none 0 0, .pointer none, .int .i64 OF] 40) = U
            obtain ⟨FB, hFB⟩ : ∃ FB, FB = w5.heap.size := ⟨_, rfl⟩
            rw [← hFB]
            have hbU : Below w5.heap.size w5 U := by rw [← hU]; exact (Below.refl _ _).alloc (Nat.le_refl _) _
            have hsU : U.heap.size = FB + 1 := by rw [← hU, hFB]; simp
            have f0 : U.cell? ⟨FB, 0, none⟩ = some (.string (NM i k)) := by rw [← hU, hFB]; simp
            have f1 : U.cell? ⟨FB, 1, none⟩ = some (.int .i64 (TY i k).kind) := by rw [← hU, hFB]; simp
            have f2 : U.cell? ⟨FB, 2, none⟩ = some (.int .i64 (TY i k).size) := by rw [← hU, hFB]; simp
            have f3 : U.cell? ⟨FB, 3, none⟩ = some (.bool (TY i k).sg) := by rw [← hU, hFB]; simp
            have f4 : U.cell? ⟨FB, 4, none⟩ = some (.bool (TY i k).sc) := by rw [← hU, hFB]; simp
            have f5 : U.cell? ⟨FB, 5, none⟩ = some (.pointer (ELF k)) := by rw [← hU, hFB]; simp
            have f6 : U.cell? ⟨FB, 6, none⟩ = some (.int .i64 (TY i k).len) := by rw [← hU, hFB]; simp
            have f7 : U.cell? ⟨FB, 7, none⟩ = some (.int .i64 (TY i k).num) := by rw [← hU, hFB]; simp
            have f8 : U.cell? ⟨FB, 8, none⟩ = some (.slice none 0 0) := by rw [← hU, hFB]; simp
            have f9 : U.cell? ⟨FB, 9, none⟩ = some (.pointer none) := by rw [← hU, hFB]; simp
            have f10 : U.cell? ⟨FB, 10, none⟩ = some (.int .i64 OF) := by rw [← hU, hFB]; simp
            have HBU := Lib.hid (HB5.out.trans (hbU.mono HB5.out.size))
            have HBWU := Lib.hid (HB4.out.trans (HBU.out.mono HB4.out.size))
            have hpa := HBOTH.out.p.a i hlt
            have hgr := (HBOTH.out.p.r i hlt).below HBWU.out (by exact hpa.2.2.2.1)
            rw [← HC.out] at hgr
            have hfld := fieldT_any tb trb n trc (by omega) ta SN FA FN FC SZ AL i hlt (GP i) C k hpa.1 (by rw [hpa.2.1, HC.out]) hC2 hkl (NM i) (TY i) (ELP i) (offT i SZ AL (TY i)) U (HTAB.out.below htl HBWU.out) (Nat.lt_of_lt_of_le hpa.2.2.2.1 HBWU.out.size) hgr (((HBOTH.out.p.t i hlt k (by rw [← HC.out]; exact hkl)).elAt.below HBWU.out (Nat.le_refl _)).mono (Nat.le_refl _) HBWU.out.size) (fun j hj => (HBOTH.out.m.r i hlt).d k (by rw [← HC.out]; exact hkl) j hj)
            rw [← HOF.out] at hfld
            have HFLD := Lib.hid hfld
            have hFB5 : w5.heap.size = FB := hFB.symm
            clear hU hbU hpa hgr hfld hFB h0 h1 h2 h3 h4 h5 h6 h7 h8 h9 h10
            (with_reducible refine HFLD.out.mono ?_)
            rintro e w6 ⟨elg, rfl, hb6⟩
            have HB6 := Lib.hid hb6
            unfold fldT
            go_upto_region 17 with fail
            generalize hX : w6.alloc (.cells #[.string (NM i k), .int .i64 (TY i k).kind, .int .i64 (TY i k).size, .bool (TY i k).sg, .bool (TY i k).sc, .pointer elg, .int .i64 (TY i k).len, .int .i64 (TY i k).num, .slice none 0 0, .pointer none, .int .i64 OF] 40) = X
            obtain ⟨GB, hGB⟩ : ∃ GB, GB = w6.heap.size := ⟨_, rfl⟩
            rw [← hGB]
            have hbX : Below w6.heap.size w6 X := by rw [← hX]; exact (Below.refl _ _).alloc (Nat.le_refl _) _
            have hsX : X.heap.size = GB + 1 := by rw [← hX, hGB]; simp
            have hs6 : U.heap.size ≤ GB := by rw [hGB]; exact hb6.size
            have HUX := Lib.hid (hb6.trans (hbX.mono hb6.size))
            have H4X := Lib.hid (HBU.out.trans (HUX.out.mono HBU.out.size))
            have HWX := Lib.hid (HB4.out.trans (H4X.out.mono HB4.out.size))
            have HRTX := Lib.hid (HRT.out.below HWX.out)
            have hg4 : w4.heap.size ≤ w5.heap.size := HB5.out.size
            have hgNX : gN < X.heap.size := Nat.lt_of_lt_of_le HNG.out HWX.out.size
            have hGX : G i < X.heap.size := HRTX.out.g i hlt
            have hRBX : RB < X.heap.size := by omega
            have hFBX : FB < X.heap.size := by omega
            have hGBX : GB < X.heap.size := by omega
            have s0 : X.cell? ⟨FB, 0, none⟩ = some (.string (NM i k)) := by rw [HUX.out.cell (by simp; omega)]; exact f0
            have s1 : X.cell? ⟨FB, 1, none⟩ = some (.int .i64 (TY i k).kind) := by rw [HUX.out.cell (by simp; omega)]; exact f1
            have s2 : X.cell? ⟨FB, 2, none⟩ = some (.int .i64 (TY i k).size) := by rw [HUX.out.cell (by simp; omega)]; exact f2
            have s3 : X.cell? ⟨FB, 3, none⟩ = some (.bool (TY i k).sg) := by rw [HUX.out.cell (by simp; omega)]; exact f3
            have s4 : X.cell? ⟨FB, 4, none⟩ = some (.bool (TY i k).sc) := by rw [HUX.out.cell (by simp; omega)]; exact f4
            have s5 : X.cell? ⟨FB, 5, none⟩ = some (.pointer (ELF k)) := by rw [HUX.out.cell (by simp; omega)]; exact f5
            have s6 : X.cell? ⟨FB, 6, none⟩ = some (.int .i64 (TY i k).len) := by rw [HUX.out.cell (by simp; omega)]; exact f6
            have s7 : X.cell? ⟨FB, 7, none⟩ = some (.int .i64 (TY i k).num) := by rw [HUX.out.cell (by simp; omega)]; exact f7
            have s8 : X.cell? ⟨FB, 8, none⟩ = some (.slice none 0 0) := by rw [HUX.out.cell (by simp; omega)]; exact f8
            have s9 : X.cell? ⟨FB, 9, none⟩ = some (.pointer none) := by rw [HUX.out.cell (by simp; omega)]; exact f9
            have s10 : X.cell? ⟨FB, 10, none⟩ = some (.int .i64 OF) := by rw [HUX.out.cell (by simp; omega)]; exact f10
            have s11 : X.cell? ⟨GB, 10, none⟩ = some (.int .i64 OF) := by rw [← hX, hGB]; simp
            have s12 : X.cell? ⟨RB, 1, none⟩ = some (.slice (some ⟨gN, 0, none⟩) C VC) := by rw [H4X.out.cell (by exact hRB4)]; exact HQ1.out
            have s13 : X.cell? ⟨RB, 2, none⟩ = some (.slice (some ⟨G i, 0, none⟩) C (CC i)) := by rw [H4X.out.cell (by exact hRB4)]; exact HQ2.out
            have s14 : X.cell? ⟨gN, k, none⟩ = some (.string (NM i k)) := by rw [HWX.out.cell (by exact HNG.out)]; exact HNMS.out k hkl
            obtain ⟨⟨s15, s16, s17, s18, s19, s20, s21, s22, s23⟩, _⟩ := HRTX.out.t i hlt k (by rw [← HC.out]; exact hkl)
            have HELX := Lib.hid ((((HELF.out k hkl).below H4X.out (Nat.le_refl _)).mono (Nat.le_refl _) H4X.out.size : ElAt X 0 X.heap.size (TY i k) (ELF k)))
            have HERX := Lib.hid ((HRTX.out.t i hlt k (by rw [← HC.out]; exact hkl)).2)
            have hsm := fun (w : World) h1 h2 => same_any (TY i k) (TY i k) (ELF k) (ELR i k) w h1 h2
            rw [sameT_refl] at hsm
            unfold tyV at hsm
            have HSM := Lib.hid hsm
            have HAT := HAT1
            have hkl0 : (0 : Int) ≤ k := by omega
            clear hX hb6 hbX hsm hGB f0 f1 f2 f3 f4 f5 f6 f7 f8 f9 f10
            go_region_held3 (fun w' => w'.cell? ⟨FB, 0, none⟩ = some (.string (NM i k)) ∧ w'.cell? ⟨FB, 1, none⟩ = some (.int .i64 (TY i k).kind) ∧ w'.cell? ⟨FB, 2, none⟩ = some (.int .i64 (TY i k).size) ∧ w'.cell? ⟨FB, 3, none⟩ = some (.bool (TY i k).sg) ∧ w'.cell? ⟨FB, 4, none⟩ = some (.bool (TY i k).sc) ∧ w'.cell? ⟨FB, 5, none⟩ = some (.pointer (ELF k)) ∧ w'.cell? ⟨FB, 6, none⟩ = some (.int .i64 (TY i k).len) ∧ w'.cell? ⟨FB, 7, none⟩ = some (.int .i64 (TY i k).num) ∧ w'.cell? ⟨FB, 8, none⟩ = some (.slice none 0 0) ∧ w'.cell? ⟨FB, 9, none⟩ = some (.pointer none) ∧ w'.cell? ⟨FB, 10, none⟩ = some (.int .i64 OF) ∧ w'.cell? ⟨GB, 10, none⟩ = some (.int .i64 OF) ∧ w'.cell? ⟨RB, 1, none⟩ = some (.slice (some ⟨gN, 0, none⟩) C VC) ∧ w'.cell? ⟨RB, 2, none⟩ = some (.slice (some ⟨G i, 0, none⟩) C (CC i)) ∧ w'.cell? ⟨gN, k, none⟩ = some (.string (NM i k)) ∧ w'.cell? ⟨G i, k * 9, none⟩ = some (.int .i64 (TY i k).kind) ∧ w'.cell? ⟨G i, k * 9 + 1, none⟩ = some (.int .i64 (TY i k).size) ∧ w'.cell? ⟨G i, k * 9 + 2, none⟩ = some (.bool (TY i k).sg) ∧ w'.cell? ⟨G i, k * 9 + 3, none⟩ = some (.bool (TY i k).sc) ∧ w'.cell? ⟨G i, k * 9 + 4, none⟩ = some (.pointer (ELR i k)) ∧ w'.cell? ⟨G i, k * 9 + 5, none⟩ = some (.int .i64 (TY i k).len) ∧ w'.cell? ⟨G i, k * 9 + 6, none⟩ = some (.int .i64 (TY i k).num) ∧ w'.cell? ⟨G i, k * 9 + 7, none⟩ = some (.slice none 0 0) ∧ w'.cell? ⟨G i, k * 9 + 8, none⟩ = some (.pointer none)) (go_keep)
              (first
                | (go_at_call 11
                   (with_reducible refine (HAT.out _ (by first | (have hp := HB7s.out; exact HRTX.out.below hp) | exact HRTX.out.below (Below.refl _ _).drew)).mono ?_)
                   rintro e w7a ⟨rfl, hb⟩
                   have HB7a : Hid (Below X.heap.size X w7a) := Lib.hid (by first | (have hp := HB7s.out; exact hp.trans (hb.mono hp.size)) | exact (Below.refl _ _).drew.trans hb)
                   clear hb
                   have s07a : w7a.cell? ⟨FB, 0, none⟩ = some (.string (NM i k)) := by rw [HB7a.out.cell (by simp; omega)]; exact s0
                   have s17a : w7a.cell? ⟨FB, 1, none⟩ = some (.int .i64 (TY i k).kind) := by rw [HB7a.out.cell (by simp; omega)]; exact s1
                   have s27a : w7a.cell? ⟨FB, 2, none⟩ = some (.int .i64 (TY i k).size) := by rw [HB7a.out.cell (by simp; omega)]; exact s2
                   have s37a : w7a.cell? ⟨FB, 3, none⟩ = some (.bool (TY i k).sg) := by rw [HB7a.out.cell (by simp; omega)]; exact s3
                   have s47a : w7a.cell? ⟨FB, 4, none⟩ = some (.bool (TY i k).sc) := by rw [HB7a.out.cell (by simp; omega)]; exact s4
                   have s57a : w7a.cell? ⟨FB, 5, none⟩ = some (.pointer (ELF k)) := by rw [HB7a.out.cell (by simp; omega)]; exact s5
                   have s67a : w7a.cell? ⟨FB, 6, none⟩ = some (.int .i64 (TY i k).len) := by rw [HB7a.out.cell (by simp; omega)]; exact s6
                   have s77a : w7a.cell? ⟨FB, 7, none⟩ = some (.int .i64 (TY i k).num) := by rw [HB7a.out.cell (by simp; omega)]; exact s7
                   have s87a : w7a.cell? ⟨FB, 8, none⟩ = some (.slice none 0 0) := by rw [HB7a.out.cell (by simp; omega)]; exact s8
                   have s97a : w7a.cell? ⟨FB, 9, none⟩ = some (.pointer none) := by rw [HB7a.out.cell (by simp; omega)]; exact s9
                   have s107a : w7a.cell? ⟨FB, 10, none⟩ = some (.int .i64 OF) := by rw [HB7a.out.cell (by simp; omega)]; exact s10
                   have s117a : w7a.cell? ⟨GB, 10, none⟩ = some (.int .i64 OF) := by rw [HB7a.out.cell (by simp; omega)]; exact s11
                   have s127a : w7a.cell? ⟨RB, 1, none⟩ = some (.slice (some ⟨gN, 0, none⟩) C VC) := by rw [HB7a.out.cell (by simp; omega)]; exact s12
                   have s137a : w7a.cell? ⟨RB, 2, none⟩ = some (.slice (some ⟨G i, 0, none⟩) C (CC i)) := by rw [HB7a.out.cell (by simp; omega)]; exact s13
                   have s147a : w7a.cell? ⟨gN, k, none⟩ = some (.string (NM i k)) := by rw [HB7a.out.cell (by simp; omega)]; exact s14
                   have s157a : w7a.cell? ⟨G i, k * 9, none⟩ = some (.int .i64 (TY i k).kind) := by rw [HB7a.out.cell (by simp; omega)]; exact s15
                   have s167a : w7a.cell? ⟨G i, k * 9 + 1, none⟩ = some (.int .i64 (TY i k).size) := by rw [HB7a.out.cell (by simp; omega)]; exact s16
                   have s177a : w7a.cell? ⟨G i, k * 9 + 2, none⟩ = some (.bool (TY i k).sg) := by rw [HB7a.out.cell (by simp; omega)]; exact s17
                   have s187a : w7a.cell? ⟨G i, k * 9 + 3, none⟩ = some (.bool (TY i k).sc) := by rw [HB7a.out.cell (by simp; omega)]; exact s18
                   have s197a : w7a.cell? ⟨G i, k * 9 + 4, none⟩ = some (.pointer (ELR i k)) := by rw [HB7a.out.cell (by simp; omega)]; exact s19
                   have s207a : w7a.cell? ⟨G i, k * 9 + 5, none⟩ = some (.int .i64 (TY i k).len) := by rw [HB7a.out.cell (by simp; omega)]; exact s20
                   have s217a : w7a.cell? ⟨G i, k * 9 + 6, none⟩ = some (.int .i64 (TY i k).num) := by rw [HB7a.out.cell (by simp; omega)]; exact s21
                   have s227a : w7a.cell? ⟨G i, k * 9 + 7, none⟩ = some (.slice none 0 0) := by rw [HB7a.out.cell (by simp; omega)]; exact s22
                   have s237a : w7a.cell? ⟨G i, k * 9 + 8, none⟩ = some (.pointer none) := by rw [HB7a.out.cell (by simp; omega)]; exact s23)
                | (go_at_call 12
                   (with_reducible refine (HSM.out _ (by first | (have hp := HB7a.out; exact (HELX.out.below hp (Nat.le_refl _)).mono (Nat.le_refl _) hp.size) | exact (HELX.out.below (Below.refl _ _).drew (Nat.le_refl _)).mono (Nat.le_refl _) (Below.refl X.heap.size X).drew.size) (by first | (have hp := HB7a.out; exact (HERX.out.below hp (Nat.le_refl _)).mono (Nat.le_refl _) hp.size) | exact (HERX.out.below (Below.refl _ _).drew (Nat.le_refl _)).mono (Nat.le_refl _) (Below.refl X.heap.size X).drew.size)).mono ?_)
                   rintro e w7s ⟨rfl, hb⟩
                   have HB7s : Hid (Below X.heap.size X w7s) := Lib.hid (by first | (have hp := HB7a.out; exact hp.trans (hb.mono hp.size)) | exact (Below.refl _ _).drew.trans hb)
                   clear hb
                   have s07s : w7s.cell? ⟨FB, 0, none⟩ = some (.string (NM i k)) := by rw [HB7s.out.cell (by simp; omega)]; exact s0
                   have s17s : w7s.cell? ⟨FB, 1, none⟩ = some (.int .i64 (TY i k).kind) := by rw [HB7s.out.cell (by simp; omega)]; exact s1
                   have s27s : w7s.cell? ⟨FB, 2, none⟩ = some (.int .i64 (TY i k).size) := by rw [HB7s.out.cell (by simp; omega)]; exact s2
                   have s37s : w7s.cell? ⟨FB, 3, none⟩ = some (.bool (TY i k).sg) := by rw [HB7s.out.cell (by simp; omega)]; exact s3
                   have s47s : w7s.cell? ⟨FB, 4, none⟩ = some (.bool (TY i k).sc) := by rw [HB7s.out.cell (by simp; omega)]; exact s4
                   have s57s : w7s.cell? ⟨FB, 5, none⟩ = some (.pointer (ELF k)) := by rw [HB7s.out.cell (by simp; omega)]; exact s5
                   have s67s : w7s.cell? ⟨FB, 6, none⟩ = some (.int .i64 (TY i k).len) := by rw [HB7s.out.cell (by simp; omega)]; exact s6
                   have s77s : w7s.cell? ⟨FB, 7, none⟩ = some (.int .i64 (TY i k).num) := by rw [HB7s.out.cell (by simp; omega)]; exact s7
                   have s87s : w7s.cell? ⟨FB, 8, none⟩ = some (.slice none 0 0) := by rw [HB7s.out.cell (by simp; omega)]; exact s8
                   have s97s : w7s.cell? ⟨FB, 9, none⟩ = some (.pointer none) := by rw [HB7s.out.cell (by simp; omega)]; exact s9
                   have s107s : w7s.cell? ⟨FB, 10, none⟩ = some (.int .i64 OF) := by rw [HB7s.out.cell (by simp; omega)]; exact s10
                   have s117s : w7s.cell? ⟨GB, 10, none⟩ = some (.int .i64 OF) := by rw [HB7s.out.cell (by simp; omega)]; exact s11
                   have s127s : w7s.cell? ⟨RB, 1, none⟩ = some (.slice (some ⟨gN, 0, none⟩) C VC) := by rw [HB7s.out.cell (by simp; omega)]; exact s12
                   have s137s : w7s.cell? ⟨RB, 2, none⟩ = some (.slice (some ⟨G i, 0, none⟩) C (CC i)) := by rw [HB7s.out.cell (by simp; omega)]; exact s13
                   have s147s : w7s.cell? ⟨gN, k, none⟩ = some (.string (NM i k)) := by rw [HB7s.out.cell (by simp; omega)]; exact s14
                   have s157s : w7s.cell? ⟨G i, k * 9, none⟩ = some (.int .i64 (TY i k).kind) := by rw [HB7s.out.cell (by simp; omega)]; exact s15
                   have s167s : w7s.cell? ⟨G i, k * 9 + 1, none⟩ = some (.int .i64 (TY i k).size) := by rw [HB7s.out.cell (by simp; omega)]; exact s16
                   have s177s : w7s.cell? ⟨G i, k * 9 + 2, none⟩ = some (.bool (TY i k).sg) := by rw [HB7s.out.cell (by simp; omega)]; exact s17
                   have s187s : w7s.cell? ⟨G i, k * 9 + 3, none⟩ = some (.bool (TY i k).sc) := by rw [HB7s.out.cell (by simp; omega)]; exact s18
                   have s197s : w7s.cell? ⟨G i, k * 9 + 4, none⟩ = some (.pointer (ELR i k)) := by rw [HB7s.out.cell (by simp; omega)]; exact s19
                   have s207s : w7s.cell? ⟨G i, k * 9 + 5, none⟩ = some (.int .i64 (TY i k).len) := by rw [HB7s.out.cell (by simp; omega)]; exact s20
                   have s217s : w7s.cell? ⟨G i, k * 9 + 6, none⟩ = some (.int .i64 (TY i k).num) := by rw [HB7s.out.cell (by simp; omega)]; exact s21
                   have s227s : w7s.cell? ⟨G i, k * 9 + 7, none⟩ = some (.slice none 0 0) := by rw [HB7s.out.cell (by simp; omega)]; exact s22
                   have s237s : w7s.cell? ⟨G i, k * 9 + 8, none⟩ = some (.pointer none) := by rw [HB7s.out.cell (by simp; omega)]; exact s23))
            go_wp2_with fail
            go_roundw
            case rel => exact ⟨k + 1, by go_num, by omega, H4X.out.trans ((by first | exact HB7s.out | exact HB7a.out : Below X.heap.size X _).mono H4X.out.size)⟩
            case measure => simp [intOf]; omega
          · obtain rfl : C = k := by omega
            clear hb
            go_wp2_with fail
            go_roundw
            case rel => exact ⟨i + 1, by go_num, by omega, HB4.out.trans (HB5.out.mono HB4.out.size)⟩
            case measure => simp [intOf]; omega
      · obtain rfl : n = i := by omega
        clear hb
        go_wp2_with fail
        go_loopw [127, 16] (fun vi vs wr => ∃ (k : Nat) (x : ByteArray), vi = .int .i64 k ∧ vs = .string x ∧ k ≤ n ∧ Below W.heap.size W wr ∧ x.size ≤ 4 + k * 140737488355328 ∧ 4 ≤ x.size ∧ ∀ j, j < k → (SN j).size < x.size) (fun vi _ _ => n - (intOf vi).toNat)
        case atStart => exact ⟨0, _, rfl, rfl, by omega, HB2.out, by decide, by decide, fun j hj => by omega⟩
        case round =>
          obtain ⟨k, x, rfl, rfl, hk, hb, hx1, hx2, hx3⟩ := hrel
          have HB3 := Lib.hid hb
          have HX3 := Lib.hid hx3
          by_cases hlt3 : k < n
          · have hla := HBOTH.out.r.a (by omega)
            subst hla
            have hkl : (k : Int) < n := by omega
            obtain ⟨c0, c1, c2⟩ := (HRT.out.below hb).r k hlt3
            have hsk := HSIZES.out k hlt3
            clear hb hx3 hlt
            go_wp2
            go_roundw
            case rel =>
              refine ⟨k + 1, x ++ SN k, by go_num, rfl, by omega, HB3.out.alloc HB3.out.size _, ?_, ?_, fun j hj => ?_⟩
              · rw [ByteArray.size_append]; omega
              · rw [ByteArray.size_append]; omega
              · rw [ByteArray.size_append]
                by_cases hjk : j < k
                · have := HX3.out j hjk; omega
                · obtain rfl : j = k := by omega
                  omega
            case measure => simp [intOf]; omega
          · obtain rfl : n = k := by omega
            have hno : ∀ j, j < n → ((SN j).toList == x.toList) = false := fun j hj => by
              cases hb : ((SN j).toList == x.toList) with
              | false => rfl
              | true =>
                have h1 := ba_eq hb
                have h2 := HX3.out j hj
                rw [h1] at h2
                omega
            have HFN := Lib.hid (find_no tb trb n trc (by omega) ta SN FA FN FC SZ AL x hno wr (HTAB.out.below htl hb))
            have HTR := Lib.hid (HTAB.out.below htl hb)
            clear hb hx3 hno hlt hlt3
            go_wp2_with (first
              | (go_at_call 8
                 (with_reducible refine HFN.out.mono ?_)
                 rintro e w7 ⟨rfl, hb7⟩
                 have HB7 : Hid (Below wr.heap.size wr w7) := Lib.hid hb7
                 clear hb7)
              | (go_at_call 9
                 (with_reducible refine (fields_out tb trb n trc (by omega) ta SN FA FN FC SZ AL n (by omega) w7 (HTR.out.below (Nat.lt_of_lt_of_le htl HB3.out.size) HB7.out)).mono ?_)
                 rintro e w8 ⟨rfl, hb8⟩
                 have HB8 : Hid (Below wr.heap.size wr w8) := Lib.hid (HB7.out.trans (hb8.mono HB7.out.size))
                 clear hb8))
            go_ret
            exact ⟨rfl, HBW.out.trans ((HB3.out.trans (HB8.out.mono HB3.out.size)).mono HBW.out.size)⟩
end Go.Proofs.Ytoajcggiccfaiaa
