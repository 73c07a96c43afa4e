import Derived.Test.YtdkhanjfncbfnaaCtQ
import Derived.Test.YtdkhanjfncbfnaaCtBE
namespace Go.Proofs.Ytdkhanjfncbfnaa
open Go Go.RowKit
set_option linter.unusedVariables false
set_option linter.unusedSimpArgs false

def TypeResO (w : World) (e : Ending) (w' : World) : Prop := ∃ t el b, e = .returned (.tuple #[tyV t el, .bool b]) ∧ ElAt w' w.heap.size w'.heap.size t el ∧ Below w.heap.size w w' ∧ OkT t
def Cut1O (W : World) (s4 : Value) (wx : World) : Prop := ∃ T t, s4 = .pointer (some ⟨T, 0, none⟩) ∧ VarT wx T t none ∧ t.kind = 1 ∧ W.heap.size ≤ T ∧ Below W.heap.size W wx ∧ OkT t
theorem okNeg {t : Ty} (h : OkT t) (x : Int) (hx : x ≤ 0) : OkT (.arr t (-(x.tmod 20))) := by
  have h1 := Int.tmod_nonneg 20 (show 0 ≤ -x by omega)
  have h2 := Int.tmod_lt_of_pos (-x) (show (0 : Int) < 20 by omega)
  rw [Int.neg_tmod] at h1 h2
  exact ⟨h1, by omega, h⟩
theorem okMod {t : Ty} (h : OkT t) (x : Int) : OkT (.arr t (x % 20)) := by
  have h1 := Int.emod_nonneg x (show (20 : Int) ≠ 0 by omega)
  have h2 := Int.emod_lt_of_pos x (show (0 : Int) < 20 by omega)
  exact ⟨h1, by omega, h⟩
theorem okArr {t : Ty} (h : OkT t) (x : Int) (hx : 0 ≤ x) : OkT (.arr t (x.tmod 20)) := by
  have h1 := Int.tmod_nonneg 20 hx
  have h2 := Int.tmod_lt_of_pos x (show (0 : Int) < 20 by omega)
  exact ⟨h1, by omega, h⟩

set_option maxRecDepth 100000 in
set_option maxHeartbeats 8000000 in
theorem type_ok (n : Int) (a : Option Addr) (len cap : Nat) (hlen : len ≤ 9223372036854775807) (w : World) (hs : Steps w a len) (hbl : 0 < len → ∀ x, a = some x → x.block < w.heap.size) :
    Calls Try.prog 14 #[.agg #[.int .i64 n, .slice a len cap]] w (TypeResO w) := by
  have HST := Lib.hid hs
  have HBL0 := Lib.hid hbl
  clear hs hbl
  obtain ⟨q3, hq3, hq30, hq31⟩ : ∃ q, bits .and .i64 n 3 = q ∧ 0 ≤ q ∧ q ≤ 3 := ⟨n % 4, i64_and3 n, by omega, by omega⟩
  go_enter Try.func14, Try.ntmps14
  go_upto_region 1 with fail
  generalize hW : (w.alloc (.cells #[.int .i64 n, .slice a len cap] 44)).alloc (.cells #[.int .i64 0, .int .i64 0, .bool false, .bool false, .pointer none, .int .i64 0, .int .i64 0, .slice none 0 0, .pointer none] 57) = W
  have hB0 : Below w.heap.size w W := by rw [← hW]; exact ((Below.refl _ _).alloc (Nat.le_refl _) _).alloc (by simp) _
  have hsW : W.heap.size = w.heap.size + 2 := by rw [← hW]; simp
  have b0 : W.cell? ⟨w.heap.size, 0, none⟩ = some (.int .i64 n) := by rw [← hW]; simp
  have b1 : W.cell? ⟨w.heap.size, 1, none⟩ = some (.slice a len cap) := by rw [← hW]; simp
  have hvr : Cells9 W (w.heap.size + 1) 0 .void none := by rw [← hW]; have := cells9_void (w.alloc (.cells #[.int .i64 n, .slice a len cap] 44)) 57; rw [World.size_alloc] at this; exact this
  have hfr : Free9 W (w.heap.size + 1) := by rw [← hW]; have := free9_alloc (w.alloc (.cells #[.int .i64 n, .slice a len cap] 44)) (.int .i64 0) (.int .i64 0) (.bool false) (.bool false) (.pointer none) (.int .i64 0) (.int .i64 0) (.slice none 0 0) (.pointer none) 57; rw [World.size_alloc] at this; exact this
  have HB0 := Lib.hid hB0
  have HSW := Lib.hid hsW
  have HVR := Lib.hid hvr
  have HFR := Lib.hid hfr
  have HK0 := Lib.hid b0
  have HK1 := Lib.hid b1
  have bl : w.heap.size < W.heap.size := by omega
  have bn : w.heap.size ≠ W.heap.size := by omega
  have bn' : W.heap.size ≠ w.heap.size := by omega
  clear hW hB0 hsW hvr hfr b1
  go_cut [4] (fun s4 wx => Cut1O W s4 wx)
  case first =>
    rcases (show q3 = 0 ∨ q3 = 1 ∨ q3 = 2 ∨ q3 = 3 by omega) with rfl | rfl | rfl | rfl
    · clear hq30 hq31
      have hwr : IntKind.i64.wrap 1 = 1 := by decide
      go_region_held3 (fun w' => w'.cell? ⟨w.heap.size, 0, none⟩ = some (.int .i64 n)) (go_keep)
        (first
          | (go_at_call 24
             refine (CintOf_any _ _ _).mono ?_
             rintro e w1 ⟨rfl, hb1⟩
             have HB1 : Hid (Below W.heap.size W w1) := Lib.hid (by refine Below.trans ?_ (hb1.mono ?_) <;> ((repeat (first | (with_reducible exact Below.refl _ _) | (with_reducible apply Below.drew) | (with_reducible apply Below.alloc))) <;> (simp <;> omega)))
             have b01 : w1.cell? ⟨w.heap.size, 0, none⟩ = some (.int .i64 n) := by rw [HB1.out.cell (by exact bl)]; exact b0
             have bl1 : w.heap.size < w1.heap.size := by have := HB1.out.size; omega
             have bn1 : w.heap.size ≠ w1.heap.size := by omega
             have bn1' : w1.heap.size ≠ w.heap.size := by omega
             try (have P1 : Hid (Cells9 w1 W.heap.size 0 .void none) := Lib.hid (by constructor <;> (rw [hb1.cell (by simp <;> omega)]; simp [Ty.kind, Ty.size, Ty.sg, Ty.sc, Ty.len, Ty.num]; done)); have P1F : Hid (Free9 w1 W.heap.size) := Lib.hid (by constructor <;> (rw [hb1.frozen (by simp <;> omega)]; simp; done)); have P1z : W.heap.size < w1.heap.size := (by have := hb1.size; simp at this; omega); obtain ⟨p0, p1, p2, p3, p4, p5, p6, p7, p8⟩ := P1.out; obtain ⟨pf0, pf1, pf2, pf3, pf4, pf5, pf6, pf7, pf8⟩ := P1F.out; simp only [Nat.zero_add, Ty.kind, Ty.size, Ty.sg, Ty.sc, Ty.len, Ty.num] at p0 p1 p2 p3 p4 p5 p6 p7 p8)
             clear hb1
             rw [tyV_int]))
      all_goals
        go_wp2_with fail
        go_meet
        have hA := HB1.out.size
        refine ⟨_, .int 1 (bits .and .i64 n 4 == 0) false, rfl, ?_, rfl, ?_, ?_, (show (1 : Int) ≤ 1 ∧ (1 : Int) ≤ 8 by omega)⟩
        · first | (have hp := P1.out; exact (VarT.putInt _ _ _ hp P1F.out P1z rfl)) | exact ⟨cells9_new _ _ rfl _ _ _ _, free9_new _ _ rfl _ _ _ _ _ _ _ _ _ _, rfl, by simp⟩
        · first | omega | (simp <;> omega)
        · have hC := HB1.out
          ((repeat (first | (with_reducible exact hC) | (with_reducible apply Below.setCell) | (with_reducible apply Below.drew) | (with_reducible apply Below.alloc))) <;> first | omega | (simp <;> omega))
    · clear hq30 hq31
      have hwr : IntKind.i64.wrap 2 = 2 := by decide
      go_region_held3 (fun w' => w'.cell? ⟨w.heap.size, 0, none⟩ = some (.int .i64 n)) (go_keep)
        (first
          | (go_at_call 24
             refine (CintOf_any _ _ _).mono ?_
             rintro e w1 ⟨rfl, hb1⟩
             have HB1 : Hid (Below W.heap.size W w1) := Lib.hid (by refine Below.trans ?_ (hb1.mono ?_) <;> ((repeat (first | (with_reducible exact Below.refl _ _) | (with_reducible apply Below.drew) | (with_reducible apply Below.alloc))) <;> (simp <;> omega)))
             have b01 : w1.cell? ⟨w.heap.size, 0, none⟩ = some (.int .i64 n) := by rw [HB1.out.cell (by exact bl)]; exact b0
             have bl1 : w.heap.size < w1.heap.size := by have := HB1.out.size; omega
             have bn1 : w.heap.size ≠ w1.heap.size := by omega
             have bn1' : w1.heap.size ≠ w.heap.size := by omega
             try (have P1 : Hid (Cells9 w1 W.heap.size 0 .void none) := Lib.hid (by constructor <;> (rw [hb1.cell (by simp <;> omega)]; simp [Ty.kind, Ty.size, Ty.sg, Ty.sc, Ty.len, Ty.num]; done)); have P1F : Hid (Free9 w1 W.heap.size) := Lib.hid (by constructor <;> (rw [hb1.frozen (by simp <;> omega)]; simp; done)); have P1z : W.heap.size < w1.heap.size := (by have := hb1.size; simp at this; omega); obtain ⟨p0, p1, p2, p3, p4, p5, p6, p7, p8⟩ := P1.out; obtain ⟨pf0, pf1, pf2, pf3, pf4, pf5, pf6, pf7, pf8⟩ := P1F.out; simp only [Nat.zero_add, Ty.kind, Ty.size, Ty.sg, Ty.sc, Ty.len, Ty.num] at p0 p1 p2 p3 p4 p5 p6 p7 p8)
             clear hb1
             rw [tyV_int]))
      all_goals
        go_wp2_with fail
        go_meet
        have hA := HB1.out.size
        refine ⟨_, .int 2 (bits .and .i64 n 4 == 0) false, rfl, ?_, rfl, ?_, ?_, (show (1 : Int) ≤ 2 ∧ (2 : Int) ≤ 8 by omega)⟩
        · first | (have hp := P1.out; exact (VarT.putInt _ _ _ hp P1F.out P1z rfl)) | exact ⟨cells9_new _ _ rfl _ _ _ _, free9_new _ _ rfl _ _ _ _ _ _ _ _ _ _, rfl, by simp⟩
        · first | omega | (simp <;> omega)
        · have hC := HB1.out
          ((repeat (first | (with_reducible exact hC) | (with_reducible apply Below.setCell) | (with_reducible apply Below.drew) | (with_reducible apply Below.alloc))) <;> first | omega | (simp <;> omega))
    · clear hq30 hq31
      have hwr : IntKind.i64.wrap 4 = 4 := by decide
      go_region_held3 (fun w' => w'.cell? ⟨w.heap.size, 0, none⟩ = some (.int .i64 n)) (go_keep)
        (first
          | (go_at_call 24
             refine (CintOf_any _ _ _).mono ?_
             rintro e w1 ⟨rfl, hb1⟩
             have HB1 : Hid (Below W.heap.size W w1) := Lib.hid (by refine Below.trans ?_ (hb1.mono ?_) <;> ((repeat (first | (with_reducible exact Below.refl _ _) | (with_reducible apply Below.drew) | (with_reducible apply Below.alloc))) <;> (simp <;> omega)))
             have b01 : w1.cell? ⟨w.heap.size, 0, none⟩ = some (.int .i64 n) := by rw [HB1.out.cell (by exact bl)]; exact b0
             have bl1 : w.heap.size < w1.heap.size := by have := HB1.out.size; omega
             have bn1 : w.heap.size ≠ w1.heap.size := by omega
             have bn1' : w1.heap.size ≠ w.heap.size := by omega
             try (have P1 : Hid (Cells9 w1 W.heap.size 0 .void none) := Lib.hid (by constructor <;> (rw [hb1.cell (by simp <;> omega)]; simp [Ty.kind, Ty.size, Ty.sg, Ty.sc, Ty.len, Ty.num]; done)); have P1F : Hid (Free9 w1 W.heap.size) := Lib.hid (by constructor <;> (rw [hb1.frozen (by simp <;> omega)]; simp; done)); have P1z : W.heap.size < w1.heap.size := (by have := hb1.size; simp at this; omega); obtain ⟨p0, p1, p2, p3, p4, p5, p6, p7, p8⟩ := P1.out; obtain ⟨pf0, pf1, pf2, pf3, pf4, pf5, pf6, pf7, pf8⟩ := P1F.out; simp only [Nat.zero_add, Ty.kind, Ty.size, Ty.sg, Ty.sc, Ty.len, Ty.num] at p0 p1 p2 p3 p4 p5 p6 p7 p8)
             clear hb1
             rw [tyV_int]))
      all_goals
        go_wp2_with fail
        go_meet
        have hA := HB1.out.size
        refine ⟨_, .int 4 (bits .and .i64 n 4 == 0) false, rfl, ?_, rfl, ?_, ?_, (show (1 : Int) ≤ 4 ∧ (4 : Int) ≤ 8 by omega)⟩
        · first | (have hp := P1.out; exact (VarT.putInt _ _ _ hp P1F.out P1z rfl)) | exact ⟨cells9_new _ _ rfl _ _ _ _, free9_new _ _ rfl _ _ _ _ _ _ _ _ _ _, rfl, by simp⟩
        · first | omega | (simp <;> omega)
        · have hC := HB1.out
          ((repeat (first | (with_reducible exact hC) | (with_reducible apply Below.setCell) | (with_reducible apply Below.drew) | (with_reducible apply Below.alloc))) <;> first | omega | (simp <;> omega))
    · clear hq30 hq31
      have hwr : IntKind.i64.wrap 8 = 8 := by decide
      go_region_held3 (fun w' => w'.cell? ⟨w.heap.size, 0, none⟩ = some (.int .i64 n)) (go_keep)
        (first
          | (go_at_call 24
             refine (CintOf_any _ _ _).mono ?_
             rintro e w1 ⟨rfl, hb1⟩
             have HB1 : Hid (Below W.heap.size W w1) := Lib.hid (by refine Below.trans ?_ (hb1.mono ?_) <;> ((repeat (first | (with_reducible exact Below.refl _ _) | (with_reducible apply Below.drew) | (with_reducible apply Below.alloc))) <;> (simp <;> omega)))
             have b01 : w1.cell? ⟨w.heap.size, 0, none⟩ = some (.int .i64 n) := by rw [HB1.out.cell (by exact bl)]; exact b0
             have bl1 : w.heap.size < w1.heap.size := by have := HB1.out.size; omega
             have bn1 : w.heap.size ≠ w1.heap.size := by omega
             have bn1' : w1.heap.size ≠ w.heap.size := by omega
             try (have P1 : Hid (Cells9 w1 W.heap.size 0 .void none) := Lib.hid (by constructor <;> (rw [hb1.cell (by simp <;> omega)]; simp [Ty.kind, Ty.size, Ty.sg, Ty.sc, Ty.len, Ty.num]; done)); have P1F : Hid (Free9 w1 W.heap.size) := Lib.hid (by constructor <;> (rw [hb1.frozen (by simp <;> omega)]; simp; done)); have P1z : W.heap.size < w1.heap.size := (by have := hb1.size; simp at this; omega); obtain ⟨p0, p1, p2, p3, p4, p5, p6, p7, p8⟩ := P1.out; obtain ⟨pf0, pf1, pf2, pf3, pf4, pf5, pf6, pf7, pf8⟩ := P1F.out; simp only [Nat.zero_add, Ty.kind, Ty.size, Ty.sg, Ty.sc, Ty.len, Ty.num] at p0 p1 p2 p3 p4 p5 p6 p7 p8)
             clear hb1
             rw [tyV_int]))
      all_goals
        go_wp2_with fail
        go_meet
        have hA := HB1.out.size
        refine ⟨_, .int 8 (bits .and .i64 n 4 == 0) false, rfl, ?_, rfl, ?_, ?_, (show (1 : Int) ≤ 8 ∧ (8 : Int) ≤ 8 by omega)⟩
        · first | (have hp := P1.out; exact (VarT.putInt _ _ _ hp P1F.out P1z rfl)) | exact ⟨cells9_new _ _ rfl _ _ _ _, free9_new _ _ rfl _ _ _ _ _ _ _ _ _ _, rfl, by simp⟩
        · first | omega | (simp <;> omega)
        · have hC := HB1.out
          ((repeat (first | (with_reducible exact hC) | (with_reducible apply Below.setCell) | (with_reducible apply Below.drew) | (with_reducible apply Below.alloc))) <;> first | omega | (simp <;> omega))
  case rest =>
    obtain ⟨T, t, rfl, hv, hk, hT, hb, hok⟩ := hcut
    obtain ⟨nn, bb, cc, rfl⟩ := int_of_kind hk
    have HOK0 : Hid (1 ≤ nn ∧ nn ≤ 8) := Lib.hid hok
    clear hok
    have HT := Lib.hid hT
    have hTl := hv.l
    have hTs : w.heap.size + 1 < T := by have := HSW.out; omega
    have HB := Lib.hid hb
    have HV := Lib.hid hv
    have k0 : wc.cell? ⟨w.heap.size, 0, none⟩ = some (.int .i64 n) := by rw [hb.cell (by exact bl)]; exact HK0.out
    obtain ⟨c0, c1, c2, c3, c4, c5, c6, c7, c8⟩ := hv.c
    obtain ⟨f0, f1, f2, f3, f4, f5, f6, f7, f8⟩ := hv.f
    simp only [Nat.zero_add, Ty.kind, Ty.size, Ty.sg, Ty.sc, Ty.len, Ty.num] at c0 c1 c2 c3 c4 c5 c6 c7 c8
    clear hv hk hT hb b0 hq3 hq30 hq31
    go_upto_if 21 with fail
    go_cut [4] (fun s4 wx => s4 = .pointer (some ⟨T, 0, none⟩) ∧ ∃ c, VarT wx T (.int nn bb c) none ∧ Below W.heap.size W wx)
    case first =>
      go_wp2_with (go_at_call 17
                   refine (secret_int nn bb cc _).mono ?_
                   rintro e w2 ⟨rfl, hb2⟩
                   have HS1 := Lib.hid (HV.out.c.below hb2 hTl)
                   have HS2 := Lib.hid (HV.out.f.below hb2 hTl)
                   have HS3 := Lib.hid (HB.out.trans (hb2.mono HB.out.size))
                   have HS4 := Lib.hid hb2.size
                   obtain ⟨d0, d1, d2, d3, d4, d5, d6, d7, d8⟩ := HS1.out
                   obtain ⟨g0, g1, g2, g3, g4, g5, g6, g7, g8⟩ := HS2.out
                   simp only [Nat.zero_add, Ty.kind, Ty.size, Ty.sg, Ty.sc, Ty.len, Ty.num] at d0 d1 d2 d3 d4 d5 d6 d7 d8
                   have hl2 : T < w2.heap.size := by have := hb2.size; omega
                   clear hb2
                   rw [tyV_int])
      all_goals
        go_meet
        refine ⟨rfl, ?_⟩
        first
          | (have hs1 := HS1.out
             have hs2 := HS2.out
             have hbw := HS3.out
             have hTT := HT.out
             refine ⟨true, VarT.putInt _ _ _ hs1 hs2 hl2 rfl, ?_⟩
             ((repeat (first | (with_reducible exact hbw) | (with_reducible apply Below.setCell))) <;> first | omega | (simp <;> omega)))
          | exact ⟨cc, HV.out, HB.out⟩
    case rest =>
      obtain ⟨rfl, cx, hv, hb⟩ := hcut
      obtain ⟨wo, rfl⟩ : ∃ wo : World, wo = wc := ⟨_, rfl⟩
      have hv' := hv
      clear c0 c1 c2 c3 c4 c5 c6 c7 c8 f0 f1 f2 f3 f4 f5 f6 f7 f8 k0
      have HVV := Lib.hid hv'
      have HBL := Lib.hid hb
      have k1 : wo.cell? ⟨w.heap.size, 1, none⟩ = some (.slice a len cap) := by rw [hb.cell (by exact bl)]; exact HK1.out
      have hTl2 := hv.l
      clear hv hv' hb hTl HV HB HT HK0
      by_cases h6 : 6 < len
      · obtain ⟨c0, c1, c2, c3, c4, c5, c6, c7, c8⟩ := HVV.out.c
        simp only [Nat.zero_add, Ty.kind, Ty.size, Ty.sg, Ty.sc, Ty.len, Ty.num] at c0 c1 c2 c3 c4 c5 c6 c7 c8
        obtain ⟨r0, r1, r2, r3, r4, r5, r6, r7, r8⟩ := HVR.out.below HBL.out (by have := HSW.out; omega)
        obtain ⟨g0, g1, g2, g3, g4, g5, g6, g7, g8⟩ := HFR.out.below HBL.out (by have := HSW.out; omega)
        simp only [Nat.zero_add, Ty.kind, Ty.size, Ty.sg, Ty.sc, Ty.len, Ty.num] at r0 r1 r2 r3 r4 r5 r6 r7 r8
        have hRl : w.heap.size + 1 < wo.heap.size := by have := HVV.out.l; omega
        have hRT : w.heap.size + 1 ≠ T := by omega
        go_wp2_with fail
        have hE := HVV.out.e
        have hbw := HB0.out.trans (HBL.out.mono (by have := HSW.out; omega))
        refine bodyPost_ret (v := .tuple #[tyV (.int nn bb cx) none, .bool false]) ?_ rfl ⟨(.int nn bb cx), none, false, rfl, ?_, ?_, (show OkT (.int nn bb cx) from HOK0.out)⟩
        · unfold tyV; simp [results, Try.results14, go_sem, r0, r1, r2, r3, r4, r5, r6, r7, r8, Ty.kind, Ty.size, Ty.sg, Ty.sc, Ty.len, Ty.num]
        · simp only [World.size_setCell]
          refine ElAt.mono (lo := T + 1) (by omega) (Nat.le_refl _) ?_
          ((repeat (first | (with_reducible exact hE) | (with_reducible apply ElAt.set_lo))) <;> first | omega | (simp <;> omega))
        · ((repeat (first | (with_reducible exact hbw) | (with_reducible apply Below.setCell) | (with_reducible apply Below.alloc))) <;> first | omega | (simp <;> omega))
      · go_wp2_with fail
        go_loopw [32, 5] (fun s32 s5 wr => ∃ (k : Nat) (m : Int) (t : Ty) (el : Option Addr), s32 = .int .i64 k ∧ k ≤ len ∧ s5 = .int .i64 m ∧ 0 ≤ m ∧ m ≤ k ∧ VarT wr T t el ∧ OkT t ∧ Below W.heap.size W wr) (fun s32 _ _ => len - (intOf s32).toNat)
        case atStart => exact ⟨0, 0, _, _, rfl, by omega, rfl, by omega, by omega, HVV.out, HOK0.out, HBL.out⟩
        case round =>
          obtain ⟨k, m, t, el, rfl, hk, rfl, hm0, hm1, hv, hok, hbl⟩ := hrel
          have HOK := Lib.hid hok
          clear hok
          have HVV := Lib.hid hv
          have HBL := Lib.hid hbl
          have hTr := hv.l
          have hWT : W.heap.size ≤ T := by have := HSW.out; omega
          clear hv hbl
          by_cases hlt : k < len
          · obtain ⟨bs, off, rfl, hst⟩ : ∃ b off : Nat, a = some ⟨b, off, none⟩ ∧ ∀ i, i < len → ∃ p q : Int, w.cell? ⟨b, off + i * 2, none⟩ = some (.int .i64 p) ∧ w.cell? ⟨b, off + i * 2 + 1, none⟩ = some (.int .i64 q) := by
              rcases HST.out with h | h
              · omega
              · exact h
            obtain ⟨p, q, hp0, hq0⟩ := hst k hlt
            have hbs := HBL0.out (by omega) _ rfl
            simp only at hbs
            have hp : wr.cell? ⟨bs, off + k * 2, none⟩ = some (.int .i64 p) := by rw [HBL.out.cell (by have := HSW.out; simp; omega), HB0.out.cell (by exact hbs)]; exact hp0
            have hq : wr.cell? ⟨bs, off + k * 2 + 1, none⟩ = some (.int .i64 q) := by rw [HBL.out.cell (by have := HSW.out; simp; omega), HB0.out.cell (by exact hbs)]; exact hq0
            have hbr : bs < wr.heap.size := by have := HBL.out.size; have := HSW.out; omega
            obtain ⟨c0, c1, c2, c3, c4, c5, c6, c7, c8⟩ := HVV.out.c
            obtain ⟨f0, f1, f2, f3, f4, f5, f6, f7, f8⟩ := HVV.out.f
            simp only [Nat.zero_add] at c0 c1 c2 c3 c4 c5 c6 c7 c8
            obtain ⟨qr, hqr, hqr0, hqr1⟩ : ∃ r, q.tmod 40 = r ∧ -40 < r ∧ r < 40 := ⟨_, rfl, Int.lt_tmod_of_pos q (by omega), Int.tmod_lt_of_pos q (by omega)⟩
            obtain ⟨pr, hpr, hpr0, hpr1⟩ : ∃ r, p.tmod 3 = r ∧ -3 < r ∧ r < 3 := ⟨_, rfl, Int.lt_tmod_of_pos p (by omega), Int.tmod_lt_of_pos p (by omega)⟩
            clear hst hp0 hq0 hbs
            rcases (show pr = 0 ∨ pr = 1 ∨ pr = -2 ∨ pr = 2 ∨ pr = -1 by omega) with rfl | rfl | rfl | rfl | rfl
            · clear hpr0 hpr1
              go_wp2_with (first
                | (go_at_call 28
                   refine (ptrTo_any t el _ (T + 1) (by simp; omega) ((HVV.out.e.alloc (Nat.le_refl _) _).mono (Nat.le_refl _) (by simp))).mono ?_
                   rintro e w2 ⟨el2, rfl, he2, hb2⟩
                   have HE2 := Lib.hid he2
                   have HB2 : Hid (Below W.heap.size W w2) := Lib.hid ((HBL.out.alloc HBL.out.size _).trans (hb2.mono (by have := HBL.out.size; simp; omega)))
                   have HC2 := Lib.hid ((HVV.out.c.alloc hTr _).below hb2 (by simp; omega))
                   have HF2 := Lib.hid ((HVV.out.f.below ((Below.refl _ _).alloc (Nat.le_refl _) _) hTr).below hb2 (by simp; omega))
                   obtain ⟨d0, d1, d2, d3, d4, d5, d6, d7, d8⟩ := HC2.out
                   obtain ⟨g0, g1, g2, g3, g4, g5, g6, g7, g8⟩ := HF2.out
                   simp only [Nat.zero_add] at d0 d1 d2 d3 d4 d5 d6 d7 d8
                   have hl2 : T < w2.heap.size := by have := hb2.size; simp at this; omega
                   clear he2 hb2
                   rw [tyV_ptr])
                | (go_at_call 36
                   refine (arrayOf_any t _ el _ (T + 1) (by simp; omega) ((HVV.out.e.alloc (Nat.le_refl _) _).mono (Nat.le_refl _) (by simp))).mono ?_
                   rintro e w2 ⟨el2, rfl, he2, hb2⟩
                   have HE2 := Lib.hid he2
                   have HB2 : Hid (Below W.heap.size W w2) := Lib.hid ((HBL.out.alloc HBL.out.size _).trans (hb2.mono (by have := HBL.out.size; simp; omega)))
                   have HC2 := Lib.hid ((HVV.out.c.alloc hTr _).below hb2 (by simp; omega))
                   have HF2 := Lib.hid ((HVV.out.f.below ((Below.refl _ _).alloc (Nat.le_refl _) _) hTr).below hb2 (by simp; omega))
                   obtain ⟨d0, d1, d2, d3, d4, d5, d6, d7, d8⟩ := HC2.out
                   obtain ⟨g0, g1, g2, g3, g4, g5, g6, g7, g8⟩ := HF2.out
                   simp only [Nat.zero_add] at d0 d1 d2 d3 d4 d5 d6 d7 d8
                   have hl2 : T < w2.heap.size := by have := hb2.size; simp at this; omega
                   clear he2 hb2
                   rw [tyV_arr]))
              all_goals
                go_roundw
                case rel =>
                  have hc2 := HC2.out
                  have hf2 := HF2.out
                  have hE2 := HE2.out
                  have hbw := HB2.out
                  first
                    | (refine ⟨k + 1, m, .ptr t, el2, by go_num, by omega, rfl, by omega, by omega, (by with_reducible exact VarT.putPtr t el2 hc2 hf2 hl2 hE2), trivial, ?_⟩
                       ((repeat (first | (with_reducible exact hbw) | (with_reducible apply Below.setCell) | (with_reducible apply Below.alloc))) <;> first | omega | (simp <;> omega)))
                case measure => simp [intOf]; omega
            · clear hpr0 hpr1
              go_wp2_with (first
                | (go_at_call 28
                   refine (ptrTo_any t el _ (T + 1) (by simp; omega) ((HVV.out.e.alloc (Nat.le_refl _) _).mono (Nat.le_refl _) (by simp))).mono ?_
                   rintro e w2 ⟨el2, rfl, he2, hb2⟩
                   have HE2 := Lib.hid he2
                   have HB2 : Hid (Below W.heap.size W w2) := Lib.hid ((HBL.out.alloc HBL.out.size _).trans (hb2.mono (by have := HBL.out.size; simp; omega)))
                   have HC2 := Lib.hid ((HVV.out.c.alloc hTr _).below hb2 (by simp; omega))
                   have HF2 := Lib.hid ((HVV.out.f.below ((Below.refl _ _).alloc (Nat.le_refl _) _) hTr).below hb2 (by simp; omega))
                   obtain ⟨d0, d1, d2, d3, d4, d5, d6, d7, d8⟩ := HC2.out
                   obtain ⟨g0, g1, g2, g3, g4, g5, g6, g7, g8⟩ := HF2.out
                   simp only [Nat.zero_add] at d0 d1 d2 d3 d4 d5 d6 d7 d8
                   have hl2 : T < w2.heap.size := by have := hb2.size; simp at this; omega
                   clear he2 hb2
                   rw [tyV_ptr])
                | (go_at_call 36
                   refine (arrayOf_any t _ el _ (T + 1) (by simp; omega) ((HVV.out.e.alloc (Nat.le_refl _) _).mono (Nat.le_refl _) (by simp))).mono ?_
                   rintro e w2 ⟨el2, rfl, he2, hb2⟩
                   have HE2 := Lib.hid he2
                   have HB2 : Hid (Below W.heap.size W w2) := Lib.hid ((HBL.out.alloc HBL.out.size _).trans (hb2.mono (by have := HBL.out.size; simp; omega)))
                   have HC2 := Lib.hid ((HVV.out.c.alloc hTr _).below hb2 (by simp; omega))
                   have HF2 := Lib.hid ((HVV.out.f.below ((Below.refl _ _).alloc (Nat.le_refl _) _) hTr).below hb2 (by simp; omega))
                   obtain ⟨d0, d1, d2, d3, d4, d5, d6, d7, d8⟩ := HC2.out
                   obtain ⟨g0, g1, g2, g3, g4, g5, g6, g7, g8⟩ := HF2.out
                   simp only [Nat.zero_add] at d0 d1 d2 d3 d4 d5 d6 d7 d8
                   have hl2 : T < w2.heap.size := by have := hb2.size; simp at this; omega
                   clear he2 hb2
                   rw [tyV_arr]))
              all_goals
                go_roundw
                case rel =>
                  have hc2 := HC2.out
                  have hf2 := HF2.out
                  have hE2 := HE2.out
                  have hbw := HB2.out
                  first
                    | (refine ⟨k + 1, m + 1, .ptr t, el2, by go_num, by omega, rfl, by omega, by omega, (by with_reducible exact VarT.putPtr t el2 hc2 hf2 hl2 hE2), trivial, ?_⟩
                       ((repeat (first | (with_reducible exact hbw) | (with_reducible apply Below.setCell) | (with_reducible apply Below.alloc))) <;> first | omega | (simp <;> omega)))
                    | (refine ⟨k + 1, m + 1, .arr t _, el2, by go_num, by omega, rfl, by omega, by omega, (by with_reducible exact VarT.putArr t _ el2 hc2 hf2 hl2 hE2), (by with_reducible first | exact okMod HOK.out _ | exact okArr HOK.out _ (by omega) | exact okNeg HOK.out _ (by omega) | exact ⟨by omega, by omega, HOK.out⟩), ?_⟩
                       ((repeat (first | (with_reducible exact hbw) | (with_reducible apply Below.setCell) | (with_reducible apply Below.alloc))) <;> first | omega | (simp <;> omega)))
                case measure => simp [intOf]; omega
            · clear hpr0 hpr1
              go_wp2_with (first
                | (go_at_call 28
                   refine (ptrTo_any t el _ (T + 1) (by simp; omega) ((HVV.out.e.alloc (Nat.le_refl _) _).mono (Nat.le_refl _) (by simp))).mono ?_
                   rintro e w2 ⟨el2, rfl, he2, hb2⟩
                   have HE2 := Lib.hid he2
                   have HB2 : Hid (Below W.heap.size W w2) := Lib.hid ((HBL.out.alloc HBL.out.size _).trans (hb2.mono (by have := HBL.out.size; simp; omega)))
                   have HC2 := Lib.hid ((HVV.out.c.alloc hTr _).below hb2 (by simp; omega))
                   have HF2 := Lib.hid ((HVV.out.f.below ((Below.refl _ _).alloc (Nat.le_refl _) _) hTr).below hb2 (by simp; omega))
                   obtain ⟨d0, d1, d2, d3, d4, d5, d6, d7, d8⟩ := HC2.out
                   obtain ⟨g0, g1, g2, g3, g4, g5, g6, g7, g8⟩ := HF2.out
                   simp only [Nat.zero_add] at d0 d1 d2 d3 d4 d5 d6 d7 d8
                   have hl2 : T < w2.heap.size := by have := hb2.size; simp at this; omega
                   clear he2 hb2
                   rw [tyV_ptr])
                | (go_at_call 36
                   refine (arrayOf_any t _ el _ (T + 1) (by simp; omega) ((HVV.out.e.alloc (Nat.le_refl _) _).mono (Nat.le_refl _) (by simp))).mono ?_
                   rintro e w2 ⟨el2, rfl, he2, hb2⟩
                   have HE2 := Lib.hid he2
                   have HB2 : Hid (Below W.heap.size W w2) := Lib.hid ((HBL.out.alloc HBL.out.size _).trans (hb2.mono (by have := HBL.out.size; simp; omega)))
                   have HC2 := Lib.hid ((HVV.out.c.alloc hTr _).below hb2 (by simp; omega))
                   have HF2 := Lib.hid ((HVV.out.f.below ((Below.refl _ _).alloc (Nat.le_refl _) _) hTr).below hb2 (by simp; omega))
                   obtain ⟨d0, d1, d2, d3, d4, d5, d6, d7, d8⟩ := HC2.out
                   obtain ⟨g0, g1, g2, g3, g4, g5, g6, g7, g8⟩ := HF2.out
                   simp only [Nat.zero_add] at d0 d1 d2 d3 d4 d5 d6 d7 d8
                   have hl2 : T < w2.heap.size := by have := hb2.size; simp at this; omega
                   clear he2 hb2
                   rw [tyV_arr]))
              all_goals
                go_roundw
                case rel =>
                  have hc2 := HC2.out
                  have hf2 := HF2.out
                  have hE2 := HE2.out
                  have hbw := HB2.out
                  first
                    | (refine ⟨k + 1, m + 1, .ptr t, el2, by go_num, by omega, rfl, by omega, by omega, (by with_reducible exact VarT.putPtr t el2 hc2 hf2 hl2 hE2), trivial, ?_⟩
                       ((repeat (first | (with_reducible exact hbw) | (with_reducible apply Below.setCell) | (with_reducible apply Below.alloc))) <;> first | omega | (simp <;> omega)))
                    | (refine ⟨k + 1, m + 1, .arr t _, el2, by go_num, by omega, rfl, by omega, by omega, (by with_reducible exact VarT.putArr t _ el2 hc2 hf2 hl2 hE2), (by with_reducible first | exact okMod HOK.out _ | exact okArr HOK.out _ (by omega) | exact okNeg HOK.out _ (by omega) | exact ⟨by omega, by omega, HOK.out⟩), ?_⟩
                       ((repeat (first | (with_reducible exact hbw) | (with_reducible apply Below.setCell) | (with_reducible apply Below.alloc))) <;> first | omega | (simp <;> omega)))
                case measure => simp [intOf]; omega
            · clear hpr0 hpr1
              go_wp2_with (first
                | (go_at_call 28
                   refine (ptrTo_any t el _ (T + 1) (by simp; omega) ((HVV.out.e.alloc (Nat.le_refl _) _).mono (Nat.le_refl _) (by simp))).mono ?_
                   rintro e w2 ⟨el2, rfl, he2, hb2⟩
                   have HE2 := Lib.hid he2
                   have HB2 : Hid (Below W.heap.size W w2) := Lib.hid ((HBL.out.alloc HBL.out.size _).trans (hb2.mono (by have := HBL.out.size; simp; omega)))
                   have HC2 := Lib.hid ((HVV.out.c.alloc hTr _).below hb2 (by simp; omega))
                   have HF2 := Lib.hid ((HVV.out.f.below ((Below.refl _ _).alloc (Nat.le_refl _) _) hTr).below hb2 (by simp; omega))
                   obtain ⟨d0, d1, d2, d3, d4, d5, d6, d7, d8⟩ := HC2.out
                   obtain ⟨g0, g1, g2, g3, g4, g5, g6, g7, g8⟩ := HF2.out
                   simp only [Nat.zero_add] at d0 d1 d2 d3 d4 d5 d6 d7 d8
                   have hl2 : T < w2.heap.size := by have := hb2.size; simp at this; omega
                   clear he2 hb2
                   rw [tyV_ptr])
                | (go_at_call 36
                   refine (arrayOf_any t _ el _ (T + 1) (by simp; omega) ((HVV.out.e.alloc (Nat.le_refl _) _).mono (Nat.le_refl _) (by simp))).mono ?_
                   rintro e w2 ⟨el2, rfl, he2, hb2⟩
                   have HE2 := Lib.hid he2
                   have HB2 : Hid (Below W.heap.size W w2) := Lib.hid ((HBL.out.alloc HBL.out.size _).trans (hb2.mono (by have := HBL.out.size; simp; omega)))
                   have HC2 := Lib.hid ((HVV.out.c.alloc hTr _).below hb2 (by simp; omega))
                   have HF2 := Lib.hid ((HVV.out.f.below ((Below.refl _ _).alloc (Nat.le_refl _) _) hTr).below hb2 (by simp; omega))
                   obtain ⟨d0, d1, d2, d3, d4, d5, d6, d7, d8⟩ := HC2.out
                   obtain ⟨g0, g1, g2, g3, g4, g5, g6, g7, g8⟩ := HF2.out
                   simp only [Nat.zero_add] at d0 d1 d2 d3 d4 d5 d6 d7 d8
                   have hl2 : T < w2.heap.size := by have := hb2.size; simp at this; omega
                   clear he2 hb2
                   rw [tyV_arr]))
              all_goals
                go_roundw
                case rel =>
                  have hc2 := HVV.out.c
                  have hf2 := HVV.out.f
                  have hbw := HBL.out
                  refine ⟨k + 1, m, .st _, none, by go_num, by omega, rfl, by omega, by omega, (by with_reducible exact VarT.alloc (VarT.putSt _ hc2 hf2 hTr (elAt_st _ _ _ _)) _), trivial, ?_⟩
                  ((repeat (first | (with_reducible exact hbw) | (with_reducible apply Below.setCell) | (with_reducible apply Below.alloc))) <;> first | omega | (simp <;> omega))
                case measure => simp [intOf]; omega
            · clear hpr0 hpr1
              go_wp2_with (first
                | (go_at_call 28
                   refine (ptrTo_any t el _ (T + 1) (by simp; omega) ((HVV.out.e.alloc (Nat.le_refl _) _).mono (Nat.le_refl _) (by simp))).mono ?_
                   rintro e w2 ⟨el2, rfl, he2, hb2⟩
                   have HE2 := Lib.hid he2
                   have HB2 : Hid (Below W.heap.size W w2) := Lib.hid ((HBL.out.alloc HBL.out.size _).trans (hb2.mono (by have := HBL.out.size; simp; omega)))
                   have HC2 := Lib.hid ((HVV.out.c.alloc hTr _).below hb2 (by simp; omega))
                   have HF2 := Lib.hid ((HVV.out.f.below ((Below.refl _ _).alloc (Nat.le_refl _) _) hTr).below hb2 (by simp; omega))
                   obtain ⟨d0, d1, d2, d3, d4, d5, d6, d7, d8⟩ := HC2.out
                   obtain ⟨g0, g1, g2, g3, g4, g5, g6, g7, g8⟩ := HF2.out
                   simp only [Nat.zero_add] at d0 d1 d2 d3 d4 d5 d6 d7 d8
                   have hl2 : T < w2.heap.size := by have := hb2.size; simp at this; omega
                   clear he2 hb2
                   rw [tyV_ptr])
                | (go_at_call 36
                   refine (arrayOf_any t _ el _ (T + 1) (by simp; omega) ((HVV.out.e.alloc (Nat.le_refl _) _).mono (Nat.le_refl _) (by simp))).mono ?_
                   rintro e w2 ⟨el2, rfl, he2, hb2⟩
                   have HE2 := Lib.hid he2
                   have HB2 : Hid (Below W.heap.size W w2) := Lib.hid ((HBL.out.alloc HBL.out.size _).trans (hb2.mono (by have := HBL.out.size; simp; omega)))
                   have HC2 := Lib.hid ((HVV.out.c.alloc hTr _).below hb2 (by simp; omega))
                   have HF2 := Lib.hid ((HVV.out.f.below ((Below.refl _ _).alloc (Nat.le_refl _) _) hTr).below hb2 (by simp; omega))
                   obtain ⟨d0, d1, d2, d3, d4, d5, d6, d7, d8⟩ := HC2.out
                   obtain ⟨g0, g1, g2, g3, g4, g5, g6, g7, g8⟩ := HF2.out
                   simp only [Nat.zero_add] at d0 d1 d2 d3 d4 d5 d6 d7 d8
                   have hl2 : T < w2.heap.size := by have := hb2.size; simp at this; omega
                   clear he2 hb2
                   rw [tyV_arr]))
              all_goals
                go_roundw
                case rel =>
                  have hc2 := HVV.out.c
                  have hf2 := HVV.out.f
                  have hbw := HBL.out
                  refine ⟨k + 1, m, .st _, none, by go_num, by omega, rfl, by omega, by omega, (by with_reducible exact VarT.alloc (VarT.putSt _ hc2 hf2 hTr (elAt_st _ _ _ _)) _), trivial, ?_⟩
                  ((repeat (first | (with_reducible exact hbw) | (with_reducible apply Below.setCell) | (with_reducible apply Below.alloc))) <;> first | omega | (simp <;> omega))
                case measure => simp [intOf]; omega
          · obtain rfl : k = len := by omega
            obtain ⟨c0, c1, c2, c3, c4, c5, c6, c7, c8⟩ := HVV.out.c
            simp only [Nat.zero_add] at c0 c1 c2 c3 c4 c5 c6 c7 c8
            obtain ⟨r0, r1, r2, r3, r4, r5, r6, r7, r8⟩ := HVR.out.below HBL.out (by have := HSW.out; omega)
            obtain ⟨g0, g1, g2, g3, g4, g5, g6, g7, g8⟩ := HFR.out.below HBL.out (by have := HSW.out; omega)
            simp only [Nat.zero_add, Ty.kind, Ty.size, Ty.sg, Ty.sc, Ty.len, Ty.num] at r0 r1 r2 r3 r4 r5 r6 r7 r8
            have hRl : w.heap.size + 1 < wr.heap.size := by have := HVV.out.l; omega
            have hRT : w.heap.size + 1 ≠ T := by omega
            go_wp2_with fail
            have hE := HVV.out.e
            have hbw := HB0.out.trans (HBL.out.mono (by have := HSW.out; omega))
            refine bodyPost_ret (v := .tuple #[tyV t el, .bool true]) ?_ rfl ⟨t, el, true, rfl, ?_, ?_, HOK.out⟩
            · unfold tyV; simp [results, Try.results14, go_sem, r0, r1, r2, r3, r4, r5, r6, r7, r8]
            · simp only [World.size_setCell]
              refine ElAt.mono (lo := T + 1) (by omega) (Nat.le_refl _) ?_
              ((repeat (first | (with_reducible exact hE) | (with_reducible apply ElAt.set_lo))) <;> first | omega | (simp <;> omega))
            · ((repeat (first | (with_reducible exact hbw) | (with_reducible apply Below.setCell) | (with_reducible apply Below.alloc))) <;> first | omega | (simp <;> omega))
end Go.Proofs.Ytdkhanjfncbfnaa
