import Derived.Test.YtdkhanjfncbfnaaOsCI
import Derived.BigQuiet
namespace Go.Proofs.Ytdkhanjfncbfnaa
open Go Go.RowKit
set_option linter.unusedVariables false
set_option linter.unusedSimpArgs false

theorem make80 (w : World) : (Instr.makeSlice 28 (.int .i64 80) (.int .i64 80)).run Try.prog w = .ok (.slice (some ⟨w.heap.size, 0, none⟩) 80 80) (w.alloc (.cells (madeCells #[.bool false] 80) 4)) := make_bools 80 (by omega) w
set_option maxRecDepth 100000 in
set_option maxHeartbeats 16000000 in
theorem copies_any (a : Option Addr) (len cap : Nat) (hlen : len ≤ 9223372036854775807) (xs : Nat → Int) (same : Bool) (w : World) (hr : RowI w a len xs) :
    Calls Try.prog 8 #[.slice a len cap, .bool same] w (BoolRes true w) := by
  have HR := Lib.hid hr
  clear hr
  have hm8 := make80
  go_enter Try.func8, Try.ntmps8
  go_wp2_with fail
  refine (fit_any _).mono ?_
  rintro e w1 ⟨rfl, hb1⟩
  have HB1 := Lib.hid hb1
  clear hb1
  go_wp2_with (go_at_call 10; (with_reducible refine (new_any _).mono ?_); rintro e w' ⟨rfl, rfl⟩)
  (with_reducible refine (intOf_any 8 true _).mono ?_)
  rintro e w2a ⟨rfl, hb2a⟩
  go_wp2_with fail
  (with_reducible refine (intOf_any 8 true _).mono ?_)
  rintro e w2b ⟨rfl, hb2b⟩
  go_wp2_with fail
  (with_reducible refine (ptrToO 8 true _).mono ?_)
  rintro e w2 ⟨el, rfl, hb2c⟩
  have hb2 : Below (w1.heap.size + 1) (w1.alloc (.cells #[.int .i64 0, .map none] 91)) w2 := by
    rw [show w1.heap.size + 1 = (w1.alloc (.cells #[.int .i64 0, .map none] 91)).heap.size from by simp]
    exact (hb2a.trans (hb2b.mono hb2a.size)).trans (hb2c.mono (Nat.le_trans hb2a.size hb2b.size))
  obtain ⟨mb, hmb⟩ : ∃ mb, mb = w1.heap.size := ⟨_, rfl⟩
  rw [← hmb]
  have m0 : w2.cell? ⟨mb, 0, none⟩ = some (.int .i64 0) := by rw [hmb, hb2.cell (by simp)]; simp
  have m1 : w2.cell? ⟨mb, 1, none⟩ = some (.map none) := by rw [hmb, hb2.cell (by simp)]; simp
  have mf0 : w2.frozen? ⟨mb, 0, none⟩ = false := by rw [hmb, hb2.frozen (by simp)]; simp
  have mf1 : w2.frozen? ⟨mb, 1, none⟩ = false := by rw [hmb, hb2.frozen (by simp)]; simp
  have hz2 : mb < w2.heap.size := by have := hb2.size; simp at this; omega
  have hb12 : Below w1.heap.size w1 w2 := ((Below.refl _ _).alloc (Nat.le_refl _) _).trans (hb2.mono (by simp))
  have HB12 := Lib.hid hb12
  have HMB := Lib.hid hmb
  clear hb2 hb2a hb2b hb2c hb12 hmb
  go_upto_region 5 with fail
  generalize hW : (w2.alloc (.cells #[.int .i64 1, .int .i64 8, .bool true, .bool false, .pointer none, .int .i64 0, .int .i64 0, .slice none 0 0, .pointer none] 57)).alloc (.cells #[.int .i64 2, .int .i64 8, .bool false, .bool false, .pointer el, .int .i64 0, .int .i64 0, .slice none 0 0, .pointer none] 57) = W
  obtain ⟨Y, hY⟩ : ∃ Y, Y = w2.heap.size + 1 := ⟨_, rfl⟩
  obtain ⟨X, hX⟩ : ∃ X, X = w2.heap.size := ⟨_, rfl⟩
  rw [← hY, ← hX]
  have hbW : Below w2.heap.size w2 W := by rw [← hW]; exact ((Below.refl _ _).alloc (Nat.le_refl _) _).alloc (by simp) _
  have hzW : W.heap.size = w2.heap.size + 2 := by rw [← hW]; simp
  have hbg : BgC W X Y el := by
    rw [← hW, hX, hY]
    exact ⟨by rw [World.cell?_alloc_lt _ _ _ (by simp)]; exact cell_new _ _ _ _ _ rfl, by rw [World.cell?_alloc_lt _ _ _ (by simp)]; exact cell_new _ _ _ _ _ rfl, by rw [World.cell?_alloc_lt _ _ _ (by simp)]; exact cell_new _ _ _ _ _ rfl, by rw [World.cell?_alloc_lt _ _ _ (by simp)]; exact cell_new _ _ _ _ _ rfl, by rw [World.cell?_alloc_lt _ _ _ (by simp)]; exact cell_new _ _ _ _ _ rfl, by rw [World.cell?_alloc_lt _ _ _ (by simp)]; exact cell_new _ _ _ _ _ rfl, by rw [World.cell?_alloc_lt _ _ _ (by simp)]; exact cell_new _ _ _ _ _ rfl, by rw [World.cell?_alloc_lt _ _ _ (by simp)]; exact cell_new _ _ _ _ _ rfl, by rw [World.cell?_alloc_lt _ _ _ (by simp)]; exact cell_new _ _ _ _ _ rfl, cell_new _ _ _ _ _ (by simp), cell_new _ _ _ _ _ (by simp), cell_new _ _ _ _ _ (by simp), cell_new _ _ _ _ _ (by simp), cell_new _ _ _ _ _ (by simp), cell_new _ _ _ _ _ (by simp), cell_new _ _ _ _ _ (by simp), cell_new _ _ _ _ _ (by simp), cell_new _ _ _ _ _ (by simp)⟩
  have HBG := Lib.hid hbg
  have c0 : W.cell? ⟨mb, 0, none⟩ = some (.int .i64 0) := by rw [hbW.cell (by exact hz2)]; exact m0
  have c1 : W.cell? ⟨mb, 1, none⟩ = some (.map none) := by rw [hbW.cell (by exact hz2)]; exact m1
  have f0 : W.frozen? ⟨mb, 0, none⟩ = false := by rw [hbW.frozen (by exact hz2)]; exact mf0
  have f1 : W.frozen? ⟨mb, 1, none⟩ = false := by rw [hbW.frozen (by exact hz2)]; exact mf1
  have hmbW : mb < W.heap.size := by omega
  have HXY := Lib.hid (show X < W.heap.size ∧ Y < W.heap.size ∧ X ≠ mb ∧ Y ≠ mb ∧ w.heap.size ≤ mb by
    have h1 := HMB.out
    have h2 := HB1.out.size
    omega)
  have HBW0 : Hid (Below w.heap.size w W) := Lib.hid (by
    have hb := HB1.out
    have hb2 := hb.trans (HB12.out.mono hb.size)
    exact hb2.trans (hbW.mono hb2.size))
  clear hbW hbg hY hX hz2
  go_upto_region 6 with fail
  obtain ⟨n, hn, hn4, hnl⟩ : ∃ n : Nat, (if (4 : Int) < (len : Int) then (4 : Int) else (len : Int)) = n ∧ n ≤ 4 ∧ n ≤ len := by
    by_cases h : 4 < len
    · exact ⟨4, by rw [if_pos (by omega)]; rfl, by omega, by omega⟩
    · exact ⟨len, by rw [if_neg (by omega)], by omega, by omega⟩
  rw [hn]
  clear hn hzW
  have BA : Hid (Below W.heap.size W (World.drew (World.alloc W (.cells (madeCells #[.bool false] 80) 4)))) := Lib.hid (((Below.refl _ _).alloc (Nat.le_refl _) _).drew)
  have BB : Hid (Below W.heap.size W (World.drew (World.alloc (World.alloc W (.cells (madeCells #[.bool false] 80) 4)) (.cells (madeCells #[.bool false] 80) 4)))) := Lib.hid ((((Below.refl _ _).alloc (Nat.le_refl _) _).alloc (by simp) _).drew)
  have CA0 := Lib.hid (show (World.drew (World.alloc W (.cells (madeCells #[.bool false] 80) 4))).cell? ⟨mb, 0, none⟩ = some (.int .i64 0) by rw [BA.out.cell (by exact hmbW)]; exact c0)
  have CB0 := Lib.hid (show (World.drew (World.alloc (World.alloc W (.cells (madeCells #[.bool false] 80) 4)) (.cells (madeCells #[.bool false] 80) 4))).cell? ⟨mb, 0, none⟩ = some (.int .i64 0) by rw [BB.out.cell (by exact hmbW)]; exact c0)
  have CA1 := Lib.hid (show (World.drew (World.alloc W (.cells (madeCells #[.bool false] 80) 4))).cell? ⟨mb, 1, none⟩ = some (.map none) by rw [BA.out.cell (by exact hmbW)]; exact c1)
  have CB1 := Lib.hid (show (World.drew (World.alloc (World.alloc W (.cells (madeCells #[.bool false] 80) 4)) (.cells (madeCells #[.bool false] 80) 4))).cell? ⟨mb, 1, none⟩ = some (.map none) by rw [BB.out.cell (by exact hmbW)]; exact c1)
  have FA0 := Lib.hid (show (World.drew (World.alloc W (.cells (madeCells #[.bool false] 80) 4))).frozen? ⟨mb, 0, none⟩ = false by rw [BA.out.frozen (by exact hmbW)]; exact f0)
  have FB0 := Lib.hid (show (World.drew (World.alloc (World.alloc W (.cells (madeCells #[.bool false] 80) 4)) (.cells (madeCells #[.bool false] 80) 4))).frozen? ⟨mb, 0, none⟩ = false by rw [BB.out.frozen (by exact hmbW)]; exact f0)
  have FA1 := Lib.hid (show (World.drew (World.alloc W (.cells (madeCells #[.bool false] 80) 4))).frozen? ⟨mb, 1, none⟩ = false by rw [BA.out.frozen (by exact hmbW)]; exact f1)
  have FB1 := Lib.hid (show (World.drew (World.alloc (World.alloc W (.cells (madeCells #[.bool false] 80) 4)) (.cells (madeCells #[.bool false] 80) 4))).frozen? ⟨mb, 1, none⟩ = false by rw [BB.out.frozen (by exact hmbW)]; exact f1)
  have LA : Hid (Labs (World.drew (World.alloc W (.cells (madeCells #[.bool false] 80) 4))) W.heap.size 0 80 (fun _ => false)) := Lib.hid (labs_new W (W.alloc (.cells (madeCells #[.bool false] 80) 4)) 80 rfl)
  have LB0 : Hid (Labs (World.drew (World.alloc (World.alloc W (.cells (madeCells #[.bool false] 80) 4)) (.cells (madeCells #[.bool false] 80) 4))) W.heap.size 0 80 (fun _ => false)) := Lib.hid (fun i hi => by
    have := ((labs_new W (W.alloc (.cells (madeCells #[.bool false] 80) 4)) 80 rfl).below ((Below.refl (W.alloc (.cells (madeCells #[.bool false] 80) 4)).heap.size (W.alloc (.cells (madeCells #[.bool false] 80) 4))).alloc (Nat.le_refl _) (.cells (madeCells #[.bool false] 80) 4)) (by simp)) i hi
    exact this)
  have LB1 : Hid (Labs (World.drew (World.alloc (World.alloc W (.cells (madeCells #[.bool false] 80) 4)) (.cells (madeCells #[.bool false] 80) 4))) (W.heap.size + 1) 0 80 (fun _ => false)) := Lib.hid (fun i hi => by
    have := labs_new (W.alloc (.cells (madeCells #[.bool false] 80) 4)) _ 80 rfl i hi
    rw [World.size_alloc] at this
    exact this)
  have SA := Lib.hid (show W.heap.size < (World.drew (World.alloc W (.cells (madeCells #[.bool false] 80) 4))).heap.size by simp)
  have SB0 := Lib.hid (show W.heap.size < (World.drew (World.alloc (World.alloc W (.cells (madeCells #[.bool false] 80) 4)) (.cells (madeCells #[.bool false] 80) 4))).heap.size by simp; omega)
  have SB1 := Lib.hid (show W.heap.size + 1 < (World.drew (World.alloc (World.alloc W (.cells (madeCells #[.bool false] 80) 4)) (.cells (madeCells #[.bool false] 80) 4))).heap.size by simp)
  have nm0 : W.heap.size ≠ mb := by omega
  have nm1 : W.heap.size + 1 ≠ mb := by omega
  clear hW c0 c1 f0 f1 m0 m1 mf0 mf1
  go_cut [9, 10] (fun s9 s10 wx => ∃ (W' : World) (pb s c s2 c2 : Nat), W' = wx ∧ s9 = .int .i64 0 ∧ s10 = .int .i64 1 ∧ Two80 W W' mb pb s c s2 c2)
  case first =>
    go_region_with
      (first
        | (go_at_call 21
           (have hmm := HM1.out
            with_reducible refine (make_next mb pb 1 80 (by omega) (by omega) #[{ key := .int .i64 0, val := objV s 0 c 0 80, born := 0 }] 1 rfl _ 0 80 (fun _ => false) _ (by first | exact HM1.out.mem | exact HM1.out.mem.below ((Below.refl _ _).alloc (Nat.le_refl _) _)) (by first | exact LO0.out | exact LO1.out | exact labs_new _ _ _ rfl) (by first | exact SO0.out | exact SO1.out | simp)).mono ?_)
           rintro e w4 ⟨rfl, s2, c2, hmade2⟩
           have HTWO : Hid (Two80 W w4 mb pb s c s2 c2) := Lib.hid (two80_of hmbW (by first | exact BA.out | exact BB.out) HM1.out (by first | exact Below.refl _ _ | exact (Below.refl _ _).alloc (Nat.le_refl _) _) hmade2)
           clear hmade2 hmm)
        | (go_at_call 21
           (with_reducible refine (make_first mb 80 (by omega) _ 0 80 (fun _ => false) _ (by first | exact CA0.out | exact CB0.out) (by first | exact CA1.out | exact CB1.out) (by first | exact FA0.out | exact FB0.out) (by first | exact FA1.out | exact FB1.out) (by first | exact LA.out | exact LB0.out | exact LB1.out) (by first | exact SA.out | exact SB0.out | exact SB1.out) (by first | exact nm0 | exact nm1)).mono ?_)
           rintro e w3 ⟨rfl, pb, s, c, hmade⟩
           have HM1 := Lib.hid hmade
           (first | (have LO0 : Hid (Labs w3 W.heap.size 0 80 (fun _ => false)) := Lib.hid (hmade.labs_old LB0.out SB0.out nm0); have LO1 : Hid (Labs w3 (W.heap.size + 1) 0 80 (fun _ => false)) := Lib.hid (hmade.labs_old LB1.out SB1.out nm1); have SO0 : Hid (W.heap.size < w3.heap.size) := Lib.hid (Nat.lt_of_lt_of_le SB0.out hmade.size); have SO1 : Hid (W.heap.size + 1 < w3.heap.size) := Lib.hid (Nat.lt_of_lt_of_le SB1.out hmade.size)) | skip)
           clear hmade))
    all_goals go_wp2_with fail
    all_goals go_meet
    all_goals first | exact ⟨_, _, _, _, _, _, rfl, rfl, rfl, HTWO.out⟩
  case rest =>
    obtain ⟨W', pb, s, c, s2, c2, rfl, rfl, rfl, hT⟩ := hcut
    have hbT := hT.size
    have HBW : Hid (Below w.heap.size w W') := Lib.hid (by
      have h := HBW0.out
      have hm := HXY.out.2.2.2.2
      exact ⟨hT.os.trans h.os, hT.tape.trans h.tape, hT.output.trans h.output, Nat.le_trans h.size hT.size, fun g hg => by rw [hT.keep g (by have := h.size; omega) (by omega)]; exact h.block g hg⟩)
    have HBG1 := Lib.hid (HBG.out.keep (hT.keep X HXY.out.1 HXY.out.2.2.1) (hT.keep Y HXY.out.2.1 HXY.out.2.2.2.1))
    have HOA0 := Lib.hid hT.o0
    have HOB0 := Lib.hid hT.o1
    have HCC := Lib.hid (show c ≠ c2 ∧ s ≠ c2 ∧ c ≠ s2 ∧ X ≠ c ∧ Y ≠ c ∧ X ≠ c2 ∧ Y ≠ c2 ∧ w.heap.size ≤ c ∧ w.heap.size ≤ c2 from by
      have h1 := hT.cc
      have h2 := hT.sc
      have h3 := hT.cs
      have h4 := hT.hc
      have h5 := hT.hc2
      have h6 := HXY.out
      have h7 := HBW0.out.size
      omega)
    have HMB2 := Lib.hid (show mb < W'.heap.size from lt_of_cell hT.o0.c1)
    clear hT hbT HBG HBW0 HXY HMB HB1 HB12 hm8 hmbW SA SB0 SB1 nm0 nm1 BA BB CA0 CB0 CA1 CB1 FA0 FB0 FA1 FB1 LA LB0 LB1
    go_upto_if 37 with fail
    generalize hWt : W'.alloc (.cells #[.int .i64 1, .int .i64 1, .int .i64 40] 38) = Wt
    obtain ⟨T, hTT⟩ : ∃ T, T = W'.heap.size := ⟨_, rfl⟩
    rw [← hTT]
    have hbt : Below W'.heap.size W' Wt := by rw [← hWt]; exact (Below.refl _ _).alloc (Nat.le_refl _) _
    have hpt : PtC Wt T 1 40 := by rw [← hWt, hTT]; exact ⟨cell_new _ _ _ _ _ rfl, cell_new _ _ _ _ _ rfl, cell_new _ _ _ _ _ rfl⟩
    have hpf : Wt.frozen? ⟨T, 1, none⟩ = false := by rw [← hWt, hTT]; exact frozen_new _ _ _ _ _ rfl
    have HBGt := Lib.hid (HBG1.out.below hbt)
    have HOAt := Lib.hid (HOA0.out.below hbt)
    have HOBt := Lib.hid (HOB0.out.below hbt)
    have HBt : Hid (Below w.heap.size w Wt) := Lib.hid (HBW.out.trans (hbt.mono HBW.out.size))
    have HTN := Lib.hid (show T ≠ X ∧ T ≠ Y ∧ T ≠ mb ∧ T ≠ pb ∧ T ≠ s ∧ T ≠ c ∧ T ≠ s2 ∧ T ≠ c2 ∧ w.heap.size ≤ T from by
      have h1 := lt_of_cell HBG1.out.x0
      have h2 := lt_of_cell HBG1.out.y0
      have h3 := HMB2.out
      have h4 : pb < W'.heap.size := (Array.getElem?_eq_some_iff.1 HOA0.out.hb).1
      have h5 := HOA0.out.sl
      have h6 := HOA0.out.cl
      have h7 := HOB0.out.sl
      have h8 := HOB0.out.cl
      have h9 := HBW.out.size
      omega)
    clear hWt hTT hbt HBG1 HOA0 HOB0 HBW HMB2
    go_cut [11] (fun s11 wx => ∃ (Wx : World) (o : Nat), Wx = wx ∧ s11 = .pointer (some ⟨T, 0, none⟩) ∧ Hid (o ≤ 1) ∧ Hid (PtC Wx T o 40) ∧ Hid (Turn T Wt Wx))
    case first =>
      obtain ⟨p0, p1, p2⟩ := hpt
      cases same
      · go_wp2_with fail
        go_meet
        exact ⟨Wt, 1, rfl, rfl, Lib.hid (by omega), Lib.hid ⟨p0, p1, p2⟩, Lib.hid (Turn.refl _ _)⟩
      · go_wp2_with fail
        go_meet
        exact ⟨_, 0, rfl, rfl, Lib.hid (by omega), Lib.hid ⟨by rw [World.cell?_setCell_other _ _ _ _ (by simp)]; exact p0, World.cell?_setCell_same _ _ _ p1, by rw [World.cell?_setCell_other _ _ _ _ (by simp)]; exact p2⟩, Lib.hid (Turn.set ⟨T, 1, none⟩ rfl _)⟩
    case rest =>
      obtain ⟨Wx, o, rfl, rfl, HO1, HPT, HTT⟩ := hcut
      have HBGx := Lib.hid (HBGt.out.turn HTT.out HTN.out.1.symm HTN.out.2.1.symm)
      have HOAx := Lib.hid (HOAt.out.turn HTT.out HTN.out.2.2.1 HTN.out.2.2.2.1 HTN.out.2.2.2.2.1 HTN.out.2.2.2.2.2.1)
      have HOBx := Lib.hid (HOBt.out.turn HTT.out HTN.out.2.2.1 HTN.out.2.2.2.1 HTN.out.2.2.2.2.2.2.1 HTN.out.2.2.2.2.2.2.2.1)
      have HBx : Hid (Below w.heap.size w Wx) := Lib.hid (HBt.out.trans (HTT.out.below HTN.out.2.2.2.2.2.2.2.2 HBt.out.size))
      clear HBGt HOAt HOBt HBt hpt hpf HTT
      go_wp2_with fail
      go_loopw [41] (fun s41 wr => ∃ k : Nat, s41 = .int .i64 k ∧ k ≤ n ∧ Hid (Turn c Wx wr) ∧ Hid (Ob wr mb pb #[{ key := .int .i64 0, val := objV s 0 c 0 80, born := 0 }, { key := .int .i64 1, val := objV s2 0 c2 0 80, born := 1 }] 2 0 s c 80 (fun _ => false) (stC xs k))) (fun s41 _ => n - (intOf s41).toNat)
      case atStart => exact ⟨0, rfl, by omega, Lib.hid (Turn.refl _ _), Lib.hid (by rw [stC_zero]; exact HOAx.out)⟩
      case round =>
        obtain ⟨k, rfl, hk, HT, HOA⟩ := hrel
        have HBGr := Lib.hid (HBGx.out.turn HT.out HCC.out.2.2.2.1 HCC.out.2.2.2.2.1)
        have HPTr := Lib.hid (HPT.out.turn HT.out HTN.out.2.2.2.2.2.1)
        have HOBr := Lib.hid (HOBx.out.turn HT.out HOAx.out.cm HOAx.out.cp HCC.out.2.2.1 HCC.out.1)
        have HBr : Hid (Below w.heap.size w wr) := Lib.hid (HBx.out.trans (HT.out.below HCC.out.2.2.2.2.2.2.2.1 HBx.out.size))
        by_cases hlt : k < n
        · obtain ⟨b, off, rfl, hbl, hxs⟩ : ∃ b off : Nat, a = some ⟨b, off, none⟩ ∧ b < w.heap.size ∧ ∀ i, i < len → w.cell? ⟨b, off + i, none⟩ = some (.int .i64 (xs i)) ∧ -9223372036854775808 ≤ xs i ∧ xs i ≤ 9223372036854775807 := by
            rcases HR.out with h | h
            · omega
            · exact h
          obtain ⟨e0, e1, e2⟩ := hxs k (by omega)
          obtain ⟨x, hx⟩ : ∃ x, x = xs k := ⟨_, rfl⟩
          rw [← hx] at e0 e1 e2
          have HX := Lib.hid hx
          have g0 : wr.cell? ⟨b, off + k, none⟩ = some (.int .i64 x) := by rw [HBr.out.cell (by exact hbl)]; exact e0
          have hbr : b < wr.heap.size := Nat.lt_of_lt_of_le hbl HBr.out.size
          have hkl : (k : Int) < len := by omega
          have hkn : (k : Int) < n := by omega
          clear hxs e0 hx
          go_upto_region 14 with fail
          obtain ⟨q, hq, hqk⟩ : ∃ q : Nat, 8 * (k : Int) = (q : Int) ∧ q = 8 * k := ⟨8 * k, by omega, rfl⟩
          rw [hq]
          have HQ := Lib.hid hqk
          clear hq hqk
          generalize hW3 : wr.alloc (.cells #[.int .i64 1, .int .i64 0, .int .i64 (q : Int)] 38) = W3
          obtain ⟨P, hP⟩ : ∃ P, P = wr.heap.size := ⟨_, rfl⟩
          rw [← hP]
          have hb3 : Below wr.heap.size wr W3 := by rw [← hW3]; exact (Below.refl _ _).alloc (Nat.le_refl _) _
          have hp3 : PtC W3 P 0 q := by rw [← hW3, hP]; exact ⟨cell_new _ _ _ _ _ rfl, cell_new _ _ _ _ _ rfl, cell_new _ _ _ _ _ rfl⟩
          have HPP := Lib.hid hp3
          have HPN := Lib.hid (show P ≠ c ∧ b ≠ c from by have h1 := HOA.out.cl; have h2 := HCC.out; omega)
          have HBL := Lib.hid (show b < W3.heap.size from Nat.lt_of_lt_of_le hbr hb3.size)
          have HOA3 := Lib.hid (HOA.out.below hb3)
          have HBG3 := Lib.hid (HBGr.out.below hb3)
          have HT3 : Hid (Turn c Wx W3) := Lib.hid (HT.out.trans (Turn.of hb3 HOA.out.cl))
          have g3 : W3.cell? ⟨b, off + k, none⟩ = some (.int .i64 x) := by rw [hb3.cell (by exact hbr)]; exact g0
          clear hW3 hP hb3 hp3 HBGr HPTr HOBr HBr HT HOA g0 hbr
          have ha3 := i64_and3 x
          have HA3 := Lib.hid ha3
          clear ha3
          by_cases h0 : x % 4 = 0
          · have ha : bits .and .i64 x 3 = 0 := HA3.out.trans h0
            have HK := Lib.hid (stC_step0 xs k (by rw [← HX.out]; exact h0))
            clear h0
            go_wp2_with fail
            go_roundw
            case rel => exact ⟨k + 1, by go_num, by omega, HT3, Lib.hid (by rw [HK.out]; exact HOA3.out)⟩
            case measure => simp [intOf]; omega
          by_cases h1 : x % 4 = 1
          · have ha : bits .and .i64 x 3 = 1 := HA3.out.trans h1
            have HK := Lib.hid (stC_step1 xs k (by rw [← HX.out]; exact h1))
            obtain ⟨x6, hx6⟩ : ∃ x6, bits .and .i64 x 63 = x6 := ⟨_, rfl⟩
            have HX6 := Lib.hid (hx6.symm.trans (i64_and63 x))
            have L := Lib.hid ((HOA3.out.below ((Below.refl _ _).drew)).storep q (by have := HQ.out; omega) (by have := HQ.out; omega) el (fun _ _ => rfl) 0 1 1 x6 true)
            clear h0 h1
            go_upto_region 18 with fail
            have SD : Hid (PtC W3 P 0 q ∧ BgC W3 X Y el ∧ W3.cell? ⟨b, off + k, none⟩ = some (.int .i64 x)) := Lib.hid ⟨HPP.out, HBG3.out, g3⟩
            have SE : Hid (PtC W3.drew P 0 q ∧ BgC W3.drew X Y el ∧ W3.drew.cell? ⟨b, off + k, none⟩ = some (.int .i64 x)) := Lib.hid ⟨HPP.out.keep rfl, HBG3.out.keep rfl rfl, g3⟩
            clear g3
            refine wp_region_held_drew (S := (fun w' => PtC w' P 0 q ∧ BgC w' X Y el ∧ w'.cell? ⟨b, off + k, none⟩ = some (.int .i64 x))) (by kernel_rfl) (by (first | (with_reducible exact SD.out) | (with_reducible exact SE.out))) (fun hHeld => ?_)
            refine takeD (i := 0) (d := 66) (v := ?_) rfl rfl (by kernel_rfl) (by kernel_rfl) (by kernel_rfl) (fun _ _ _ h => h) (Or.inl ⟨by rfl, ?_⟩) (by assumption) ?_
            rotate_left
            · intro w hSw
              obtain ⟨⟨p0, p1, p2⟩, ⟨x0, x1, x2, x3, x4, x5, x6', x7, x8, y0, y1, y2, y3, y4, y5, y6, y7, y8⟩, g0⟩ := hSw
              go_simp
              (try with_reducible rfl)
            (try simp only [Act.put, List.setIfInBounds_toArray, List.set_cons_zero, List.set_cons_succ])
            refine takeD (i := 1) (d := 67) (v := ?_) rfl rfl (by kernel_rfl) (by kernel_rfl) (by kernel_rfl) (fun _ _ _ h => h) (Or.inl ⟨by rfl, ?_⟩) (by assumption) ?_
            rotate_left
            · intro w hSw
              obtain ⟨⟨p0, p1, p2⟩, ⟨x0, x1, x2, x3, x4, x5, x6', x7, x8, y0, y1, y2, y3, y4, y5, y6, y7, y8⟩, g0⟩ := hSw
              go_simp
              (try with_reducible rfl)
            (try simp only [Act.put, List.setIfInBounds_toArray, List.set_cons_zero, List.set_cons_succ])
            refine takeD (i := 2) (d := 68) (v := ?_) rfl rfl (by kernel_rfl) (by kernel_rfl) (by kernel_rfl) (fun _ _ _ h => h) (Or.inl ⟨by rfl, ?_⟩) (by assumption) ?_
            rotate_left
            · intro w hSw
              obtain ⟨⟨p0, p1, p2⟩, ⟨x0, x1, x2, x3, x4, x5, x6', x7, x8, y0, y1, y2, y3, y4, y5, y6, y7, y8⟩, g0⟩ := hSw
              go_simp
              (try with_reducible rfl)
            (try simp only [Act.put, List.setIfInBounds_toArray, List.set_cons_zero, List.set_cons_succ])
            refine takeD (i := 3) (d := 69) (v := ?_) rfl rfl (by kernel_rfl) (by kernel_rfl) (by kernel_rfl) (fun _ _ _ h => h) (Or.inl ⟨by rfl, ?_⟩) (by assumption) ?_
            rotate_left
            · intro w hSw
              obtain ⟨⟨p0, p1, p2⟩, ⟨x0, x1, x2, x3, x4, x5, x6', x7, x8, y0, y1, y2, y3, y4, y5, y6, y7, y8⟩, g0⟩ := hSw
              go_simp
              (try with_reducible rfl)
            (try simp only [Act.put, List.setIfInBounds_toArray, List.set_cons_zero, List.set_cons_succ])
            refine takeD (i := 4) (d := 70) (v := ?_) rfl rfl (by kernel_rfl) (by kernel_rfl) (by kernel_rfl) (fun _ _ _ h => h) (Or.inl ⟨by rfl, ?_⟩) (by assumption) ?_
            rotate_left
            · intro w hSw
              obtain ⟨⟨p0, p1, p2⟩, ⟨x0, x1, x2, x3, x4, x5, x6', x7, x8, y0, y1, y2, y3, y4, y5, y6, y7, y8⟩, g0⟩ := hSw
              go_simp
              (try with_reducible rfl)
            (try simp only [Act.put, List.setIfInBounds_toArray, List.set_cons_zero, List.set_cons_succ])
            refine takeD (i := 5) (d := 71) (v := ?_) rfl rfl (by kernel_rfl) (by kernel_rfl) (by kernel_rfl) (fun _ _ _ h => h) (Or.inl ⟨by rfl, ?_⟩) (by assumption) ?_
            rotate_left
            · intro w hSw
              obtain ⟨⟨p0, p1, p2⟩, ⟨x0, x1, x2, x3, x4, x5, x6', x7, x8, y0, y1, y2, y3, y4, y5, y6, y7, y8⟩, g0⟩ := hSw
              go_simp
              (try with_reducible rfl)
            (try simp only [Act.put, List.setIfInBounds_toArray, List.set_cons_zero, List.set_cons_succ])
            refine takeD (i := 6) (d := 72) (v := ?_) rfl rfl (by kernel_rfl) (by kernel_rfl) (by kernel_rfl) (fun _ _ _ h => h) (Or.inl ⟨by rfl, ?_⟩) (by assumption) ?_
            rotate_left
            · intro w hSw
              obtain ⟨⟨p0, p1, p2⟩, ⟨x0, x1, x2, x3, x4, x5, x6', x7, x8, y0, y1, y2, y3, y4, y5, y6, y7, y8⟩, g0⟩ := hSw
              go_simp
              (try with_reducible rfl)
            (try simp only [Act.put, List.setIfInBounds_toArray, List.set_cons_zero, List.set_cons_succ])
            refine takeD (i := 7) (d := 73) (v := ?_) rfl rfl (by kernel_rfl) (by kernel_rfl) (by kernel_rfl) (fun _ _ _ h => h) (Or.inl ⟨by rfl, ?_⟩) (by assumption) ?_
            rotate_left
            · intro w hSw
              obtain ⟨⟨p0, p1, p2⟩, ⟨x0, x1, x2, x3, x4, x5, x6', x7, x8, y0, y1, y2, y3, y4, y5, y6, y7, y8⟩, g0⟩ := hSw
              go_simp
              (try with_reducible rfl)
            (try simp only [Act.put, List.setIfInBounds_toArray, List.set_cons_zero, List.set_cons_succ])
            refine takeD (i := 8) (d := 74) (v := ?_) rfl rfl (by kernel_rfl) (by kernel_rfl) (by kernel_rfl) (fun _ _ _ h => h) (Or.inl ⟨by rfl, ?_⟩) (by assumption) ?_
            rotate_left
            · intro w hSw
              obtain ⟨⟨p0, p1, p2⟩, ⟨x0, x1, x2, x3, x4, x5, x6', x7, x8, y0, y1, y2, y3, y4, y5, y6, y7, y8⟩, g0⟩ := hSw
              go_simp
              (try with_reducible rfl)
            (try simp only [Act.put, List.setIfInBounds_toArray, List.set_cons_zero, List.set_cons_succ])
            refine takeD (i := 9) (d := 75) (v := ?_) rfl rfl (by kernel_rfl) (by kernel_rfl) (by kernel_rfl) (fun _ _ _ h => h) (Or.inl ⟨by rfl, ?_⟩) (by assumption) ?_
            rotate_left
            · intro w hSw
              obtain ⟨⟨p0, p1, p2⟩, ⟨x0, x1, x2, x3, x4, x5, x6', x7, x8, y0, y1, y2, y3, y4, y5, y6, y7, y8⟩, g0⟩ := hSw
              go_simp
              (try with_reducible rfl)
            (try simp only [Act.put, List.setIfInBounds_toArray, List.set_cons_zero, List.set_cons_succ])
            refine takeD (i := 10) (d := 76) (v := ?_) rfl rfl (by kernel_rfl) (by kernel_rfl) (by kernel_rfl) (fun _ _ _ h => h) (Or.inl ⟨by rfl, ?_⟩) (by assumption) ?_
            rotate_left
            · intro w hSw
              obtain ⟨⟨p0, p1, p2⟩, ⟨x0, x1, x2, x3, x4, x5, x6', x7, x8, y0, y1, y2, y3, y4, y5, y6, y7, y8⟩, g0⟩ := hSw
              go_simp
              (try with_reducible rfl)
            (try simp only [Act.put, List.setIfInBounds_toArray, List.set_cons_zero, List.set_cons_succ])
            refine wpAnyH_ready (rs := [11]) (by kernel_rfl) (by simp) ?_
            refine AllReadyH.cons rfl (fun K hK => ?_) AllReadyH.nil
            go_simp
            have HL := L.out
            unfold ptrV tP at HL
            (with_reducible refine HL.mono ?_)
            rintro e w5 ⟨rfl, ht5, ho5⟩
            have HO5 := Lib.hid ho5
            have HT35 := Lib.hid ht5
            have HT5 : Hid (Turn c Wx w5) := Lib.hid (HT3.out.drew.trans ht5)
            have HDD := SE.out
            clear SD SE HL L ho5 ht5
            have SD : Hid (PtC w5 P 0 q ∧ BgC w5 X Y el ∧ w5.cell? ⟨b, off + k, none⟩ = some (.int .i64 x)) := Lib.hid ⟨HDD.1.turn HT35.out HPN.out.1, HDD.2.1.turn HT35.out HCC.out.2.2.2.1 HCC.out.2.2.2.2.1, by rw [HT35.out.cell (by exact HBL.out) (by exact HPN.out.2)]; exact HDD.2.2⟩
            have SE : Hid (PtC w5.drew P 0 q ∧ BgC w5.drew X Y el ∧ w5.drew.cell? ⟨b, off + k, none⟩ = some (.int .i64 x)) := Lib.hid ⟨SD.out.1.keep rfl, SD.out.2.1.keep rfl rfl, SD.out.2.2⟩
            clear HDD HT35
            refine hK.out _ _ ?_ (fun hHeld2 => ?_)
            · (first | (with_reducible exact SD.out) | (with_reducible exact SE.out))
            clear hHeld hK K
            have hHeld := hHeld2
            clear hHeld2
            (try simp only [Act.put, List.setIfInBounds_toArray, List.set_cons_zero, List.set_cons_succ])
            refine wpAnyH_done (by kernel_rfl) ?_ _
            clear hHeld
            clear SD SE
            go_wp2_with fail
            go_roundw
            case rel => exact ⟨k + 1, by go_num, by omega, HT5, Lib.hid (by rw [HK.out, ← HX.out, ← HX6.out, ← HQ.out]; exact HO5.out)⟩
            case measure => simp [intOf]; omega
          · obtain ⟨m, hm⟩ : ∃ m, m = x % 4 := ⟨_, rfl⟩
            rw [← hm] at h0 h1
            have ha : bits .and .i64 x 3 = m := HA3.out.trans hm.symm
            have HK := Lib.hid (stC_step2 xs k (by rw [← HX.out, ← hm]; exact h0) (by rw [← HX.out, ← hm]; exact h1))
            have L := Lib.hid ((HOA3.out.below ((Below.refl _ _).drew)).store q 8 (by unfold Sz; omega) (by have := HQ.out; omega) true false (fun _ _ => rfl) x 0 0 0 false)
            clear hm
            go_upto_region 15 with fail
            have SD : Hid (PtC W3 P 0 q ∧ BgC W3 X Y el ∧ W3.cell? ⟨b, off + k, none⟩ = some (.int .i64 x)) := Lib.hid ⟨HPP.out, HBG3.out, g3⟩
            have SE : Hid (PtC W3.drew P 0 q ∧ BgC W3.drew X Y el ∧ W3.drew.cell? ⟨b, off + k, none⟩ = some (.int .i64 x)) := Lib.hid ⟨HPP.out.keep rfl, HBG3.out.keep rfl rfl, g3⟩
            clear g3
            refine wp_region_held_drew (S := (fun w' => PtC w' P 0 q ∧ BgC w' X Y el ∧ w'.cell? ⟨b, off + k, none⟩ = some (.int .i64 x))) (by kernel_rfl) (by (first | (with_reducible exact SD.out) | (with_reducible exact SE.out))) (fun hHeld => ?_)
            refine takeD (i := 0) (d := 53) (v := ?_) rfl rfl (by kernel_rfl) (by kernel_rfl) (by kernel_rfl) (fun _ _ _ h => h) (Or.inl ⟨by rfl, ?_⟩) (by assumption) ?_
            rotate_left
            · intro w hSw
              obtain ⟨⟨p0, p1, p2⟩, ⟨x0, x1, x2, x3, x4, x5, x6', x7, x8, y0, y1, y2, y3, y4, y5, y6, y7, y8⟩, g0⟩ := hSw
              go_simp
              (try with_reducible rfl)
            (try simp only [Act.put, List.setIfInBounds_toArray, List.set_cons_zero, List.set_cons_succ])
            refine takeD (i := 1) (d := 54) (v := ?_) rfl rfl (by kernel_rfl) (by kernel_rfl) (by kernel_rfl) (fun _ _ _ h => h) (Or.inl ⟨by rfl, ?_⟩) (by assumption) ?_
            rotate_left
            · intro w hSw
              obtain ⟨⟨p0, p1, p2⟩, ⟨x0, x1, x2, x3, x4, x5, x6', x7, x8, y0, y1, y2, y3, y4, y5, y6, y7, y8⟩, g0⟩ := hSw
              go_simp
              (try with_reducible rfl)
            (try simp only [Act.put, List.setIfInBounds_toArray, List.set_cons_zero, List.set_cons_succ])
            refine takeD (i := 2) (d := 55) (v := ?_) rfl rfl (by kernel_rfl) (by kernel_rfl) (by kernel_rfl) (fun _ _ _ h => h) (Or.inl ⟨by rfl, ?_⟩) (by assumption) ?_
            rotate_left
            · intro w hSw
              obtain ⟨⟨p0, p1, p2⟩, ⟨x0, x1, x2, x3, x4, x5, x6', x7, x8, y0, y1, y2, y3, y4, y5, y6, y7, y8⟩, g0⟩ := hSw
              go_simp
              (try with_reducible rfl)
            (try simp only [Act.put, List.setIfInBounds_toArray, List.set_cons_zero, List.set_cons_succ])
            refine takeD (i := 3) (d := 56) (v := ?_) rfl rfl (by kernel_rfl) (by kernel_rfl) (by kernel_rfl) (fun _ _ _ h => h) (Or.inl ⟨by rfl, ?_⟩) (by assumption) ?_
            rotate_left
            · intro w hSw
              obtain ⟨⟨p0, p1, p2⟩, ⟨x0, x1, x2, x3, x4, x5, x6', x7, x8, y0, y1, y2, y3, y4, y5, y6, y7, y8⟩, g0⟩ := hSw
              go_simp
              (try with_reducible rfl)
            (try simp only [Act.put, List.setIfInBounds_toArray, List.set_cons_zero, List.set_cons_succ])
            refine takeD (i := 4) (d := 57) (v := ?_) rfl rfl (by kernel_rfl) (by kernel_rfl) (by kernel_rfl) (fun _ _ _ h => h) (Or.inl ⟨by rfl, ?_⟩) (by assumption) ?_
            rotate_left
            · intro w hSw
              obtain ⟨⟨p0, p1, p2⟩, ⟨x0, x1, x2, x3, x4, x5, x6', x7, x8, y0, y1, y2, y3, y4, y5, y6, y7, y8⟩, g0⟩ := hSw
              go_simp
              (try with_reducible rfl)
            (try simp only [Act.put, List.setIfInBounds_toArray, List.set_cons_zero, List.set_cons_succ])
            refine takeD (i := 5) (d := 58) (v := ?_) rfl rfl (by kernel_rfl) (by kernel_rfl) (by kernel_rfl) (fun _ _ _ h => h) (Or.inl ⟨by rfl, ?_⟩) (by assumption) ?_
            rotate_left
            · intro w hSw
              obtain ⟨⟨p0, p1, p2⟩, ⟨x0, x1, x2, x3, x4, x5, x6', x7, x8, y0, y1, y2, y3, y4, y5, y6, y7, y8⟩, g0⟩ := hSw
              go_simp
              (try with_reducible rfl)
            (try simp only [Act.put, List.setIfInBounds_toArray, List.set_cons_zero, List.set_cons_succ])
            refine takeD (i := 6) (d := 59) (v := ?_) rfl rfl (by kernel_rfl) (by kernel_rfl) (by kernel_rfl) (fun _ _ _ h => h) (Or.inl ⟨by rfl, ?_⟩) (by assumption) ?_
            rotate_left
            · intro w hSw
              obtain ⟨⟨p0, p1, p2⟩, ⟨x0, x1, x2, x3, x4, x5, x6', x7, x8, y0, y1, y2, y3, y4, y5, y6, y7, y8⟩, g0⟩ := hSw
              go_simp
              (try with_reducible rfl)
            (try simp only [Act.put, List.setIfInBounds_toArray, List.set_cons_zero, List.set_cons_succ])
            refine takeD (i := 7) (d := 60) (v := ?_) rfl rfl (by kernel_rfl) (by kernel_rfl) (by kernel_rfl) (fun _ _ _ h => h) (Or.inl ⟨by rfl, ?_⟩) (by assumption) ?_
            rotate_left
            · intro w hSw
              obtain ⟨⟨p0, p1, p2⟩, ⟨x0, x1, x2, x3, x4, x5, x6', x7, x8, y0, y1, y2, y3, y4, y5, y6, y7, y8⟩, g0⟩ := hSw
              go_simp
              (try with_reducible rfl)
            (try simp only [Act.put, List.setIfInBounds_toArray, List.set_cons_zero, List.set_cons_succ])
            refine wpAnyH_ready (rs := [8]) (by kernel_rfl) (by simp) ?_
            refine AllReadyH.cons rfl (fun K hK => ?_) AllReadyH.nil
            go_simp
            have HL := L.out
            unfold ptrV tI at HL
            rw [show ((8 : Nat) : Int) = 8 from rfl] at HL
            (with_reducible refine HL.mono ?_)
            rintro e w5 ⟨rfl, ht5, ho5⟩
            have HO5 := Lib.hid ho5
            have HT35 := Lib.hid ht5
            have HT5 : Hid (Turn c Wx w5) := Lib.hid (HT3.out.drew.trans ht5)
            have HDD := SE.out
            clear SD SE HL L ho5 ht5
            have SD : Hid (PtC w5 P 0 q ∧ BgC w5 X Y el ∧ w5.cell? ⟨b, off + k, none⟩ = some (.int .i64 x)) := Lib.hid ⟨HDD.1.turn HT35.out HPN.out.1, HDD.2.1.turn HT35.out HCC.out.2.2.2.1 HCC.out.2.2.2.2.1, by rw [HT35.out.cell (by exact HBL.out) (by exact HPN.out.2)]; exact HDD.2.2⟩
            have SE : Hid (PtC w5.drew P 0 q ∧ BgC w5.drew X Y el ∧ w5.drew.cell? ⟨b, off + k, none⟩ = some (.int .i64 x)) := Lib.hid ⟨SD.out.1.keep rfl, SD.out.2.1.keep rfl rfl, SD.out.2.2⟩
            clear HDD HT35
            refine hK.out _ _ ?_ (fun hHeld2 => ?_)
            · (first | (with_reducible exact SD.out) | (with_reducible exact SE.out))
            clear hHeld hK K
            have hHeld := hHeld2
            clear hHeld2
            (try simp only [Act.put, List.setIfInBounds_toArray, List.set_cons_zero, List.set_cons_succ])
            refine wpAnyH_done (by kernel_rfl) ?_ _
            clear hHeld
            clear SD SE
            go_wp2_with fail
            go_roundw
            case rel => exact ⟨k + 1, by go_num, by omega, HT5, Lib.hid (by rw [HK.out, ← HX.out, ← HQ.out]; exact HO5.out)⟩
            case measure => simp [intOf]; omega
        · obtain rfl : n = k := by omega
          have LC := Lib.hid (copy_law o HO1.out HOA.out HOBr.out HCC.out.1 HCC.out.2.1 HCC.out.2.2.1)
          obtain ⟨p0, p1, p2⟩ := HPTr.out
          clear HBGx HPT HOAx HOBx HBx hk hlt
          go_wp2_with fail
          (with_reducible refine LC.out.mono ?_)
          rintro e wy ⟨rfl, cx, so, co, CC, CA, hcx, hty, hoc, hcc, hoa⟩
          have HOC := Lib.hid hoc
          have HCAT := Lib.hid hcc
          have HOAy := Lib.hid hoa
          have hX : X ≠ cx ∧ Y ≠ cx ∧ T ≠ cx ∧ w.heap.size ≤ cx := by
            have h1 := HCC.out
            have h2 := HTN.out
            rcases hcx with rfl | rfl <;> omega
          have HBGy := Lib.hid (HBGr.out.turn hty hX.1 hX.2.1)
          have HPTy := Lib.hid (HPTr.out.turn hty hX.2.2.1)
          have HBy : Hid (Below w.heap.size w wy) := Lib.hid (HBr.out.trans (hty.below hX.2.2.2 HBr.out.size))
          clear p0 p1 p2 LC hcx hty hoc hcc hoa hX HBGr HPTr HOBr HBr HT HOA
          go_wp2_with fail
          go_loopw [86] (fun s86 wr => ∃ k : Nat, s86 = .int .i64 k ∧ k ≤ n ∧ Hid (Below wy.heap.size wy wr)) (fun s86 _ => n - (intOf s86).toNat)
          case atStart => exact ⟨0, rfl, by omega, Lib.hid (Below.refl _ _)⟩
          case round =>
            obtain ⟨k, rfl, hk, HR2⟩ := hrel
            have HBGz := Lib.hid (HBGy.out.below HR2.out)
            have HPTz := Lib.hid (HPTy.out.below HR2.out)
            have HOCz := Lib.hid (HOC.out.below HR2.out)
            have HBz : Hid (Below w.heap.size w wr) := Lib.hid (HBy.out.trans (HR2.out.mono HBy.out.size))
            obtain ⟨p0, p1, p2⟩ := HPTz.out
            by_cases hlt : k < n
            · obtain ⟨b, off, rfl, hbl, hxs⟩ : ∃ b off : Nat, a = some ⟨b, off, none⟩ ∧ b < w.heap.size ∧ ∀ i, i < len → w.cell? ⟨b, off + i, none⟩ = some (.int .i64 (xs i)) ∧ -9223372036854775808 ≤ xs i ∧ xs i ≤ 9223372036854775807 := by
                rcases HR.out with h | h
                · omega
                · exact h
              obtain ⟨e0, e1, e2⟩ := hxs k (by omega)
              obtain ⟨x, hx⟩ : ∃ x, x = xs k := ⟨_, rfl⟩
              rw [← hx] at e0 e1 e2
              have hcx : ∀ j, j < 8 → CC (40 + 8 * k + j) = eltC x j := fun j hj => by
                have h1 := HCAT.out (8 * k + j) (by omega)
                rw [← Nat.add_assoc] at h1
                rw [h1, stC_at xs n k j hlt hj, ← hx]
              have HCX := Lib.hid hcx
              have HE := Lib.hid (And.intro e1 e2)
              have HG := Lib.hid (And.intro hbl e0)
              have hkl : (k : Int) < len := by omega
              have hkn : (k : Int) < n := by omega
              clear hxs e0 e1 e2 hx hbl hcx
              go_upto_region 27 with fail
              obtain ⟨q, hq, hqk⟩ : ∃ q : Nat, 40 + 8 * (k : Int) = (q : Int) ∧ q = 40 + 8 * k := ⟨40 + 8 * k, by omega, rfl⟩
              rw [hq]
              have HQ := Lib.hid hqk
              clear hq hqk
              generalize hW4 : wr.alloc (.cells #[.int .i64 1, .int .i64 (o : Int), .int .i64 (q : Int)] 38) = W4
              obtain ⟨P, hP⟩ : ∃ P, P = wr.heap.size := ⟨_, rfl⟩
              rw [← hP]
              have hb4 : Below wr.heap.size wr W4 := by rw [← hW4]; exact (Below.refl _ _).alloc (Nat.le_refl _) _
              have HP4 : Hid (PtC W4 P o q) := Lib.hid (by rw [← hW4, hP]; exact ⟨cell_new _ _ _ _ _ rfl, cell_new _ _ _ _ _ rfl, cell_new _ _ _ _ _ rfl⟩)
              have HR4 : Hid (Below wy.heap.size wy W4) := Lib.hid (HR2.out.trans (hb4.mono HR2.out.size))
              have HBG4 := Lib.hid (HBGz.out.below hb4)
              have hoc4 := HOCz.out.below hb4
              clear hW4 hP hb4 p0 p1 p2 HBGz HPTz HOCz HBz HR2
              have hqk := HQ.out
              have hsum : ∃ (y1 pk po pf : Int) (ok1 ok2 isp : Bool), (∀ w', Below W4.heap.size W4 w' → Calls Try.prog 23 #[.pointer (some ⟨mb, 0, none⟩), .agg #[.int .i64 1, .int .i64 (o : Int), .int .i64 q], .agg #[.int .i64 1, .int .i64 8, .bool true, .bool false, .pointer none, .int .i64 0, .int .i64 0, .slice none 0 0, .pointer none]] w' fun e w2 => e = .returned (.tuple #[.agg #[.int .i64 y1, .int .i64 0, .int .i64 0, .int .i64 0, .bool false], .bool ok1]) ∧ Below w'.heap.size w' w2) ∧
                  (∀ w', Below W4.heap.size W4 w' → Calls Try.prog 23 #[.pointer (some ⟨mb, 0, none⟩), .agg #[.int .i64 1, .int .i64 (o : Int), .int .i64 q], .agg #[.int .i64 2, .int .i64 8, .bool false, .bool false, .pointer el, .int .i64 0, .int .i64 0, .slice none 0 0, .pointer none]] w' fun e w2 => e = .returned (.tuple #[.agg #[.int .i64 0, .int .i64 pk, .int .i64 po, .int .i64 pf, .bool isp], .bool ok2]) ∧ Below w'.heap.size w' w2) ∧
                  ((x % 4 = 0 ∧ ok1 = false ∧ ok2 = false) ∨ (x % 4 = 1 ∧ ok1 = false ∧ ok2 = true ∧ pk = 1 ∧ po = 1 ∧ pf = x % 64) ∨ (¬ x % 4 = 0 ∧ ¬ x % 4 = 1 ∧ ok1 = true ∧ ok2 = false ∧ x = y1)) := by
                have hel : ∀ j, j < 8 → CC (q + j) = eltC x j := fun j hj => by rw [hqk]; exact HCX.out j hj
                have hel0 := hel 0 (by omega)
                rw [Nat.add_zero] at hel0
                by_cases h0 : x % 4 = 0
                · have hz : CC q = ⟨0, 0, 0, 0, 0⟩ := by rw [hel0]; unfold eltC; rw [if_pos h0]
                  exact ⟨0, 0, 0, 0, false, false, false, fun w' hb => (hoc4.below hb).lnone q (by omega) (by rw [hz]; simp), fun w' hb => (hoc4.below hb).lpno q (by omega) (by omega) el (by rw [hz]; simp), Or.inl ⟨h0, rfl, rfl⟩⟩
                by_cases h1 : x % 4 = 1
                · have hz : ∀ j, j < 8 → CC (q + j) = ptrC 1 1 (x % 64) j := fun j hj => by rw [hel j hj]; unfold eltC; rw [if_neg h0, if_pos h1]
                  have hz0 := hz 0 (by omega)
                  rw [Nat.add_zero] at hz0
                  exact ⟨0, 1, 1, x % 64, false, true, true, fun w' hb => (hoc4.below hb).lnone q (by omega) (by rw [hz0]; unfold ptrC; simp), fun w' hb => (hoc4.below hb).lptr q (by omega) (by omega) el 1 1 (x % 64) hz, Or.inr (Or.inl ⟨h1, rfl, rfl, rfl, rfl, rfl⟩)⟩
                · have hz : ∀ j, j < 8 → CC (q + j) = numC x j := fun j hj => by rw [hel j hj]; unfold eltC; rw [if_neg h0, if_neg h1]
                  have hz0 := hz 0 (by omega)
                  rw [Nat.add_zero] at hz0
                  exact ⟨x, 0, 0, 0, true, false, false, fun w' hb => (hoc4.below hb).lnum q (by omega) x HE.out.1 HE.out.2 hz, fun w' hb => (hoc4.below hb).lpno q (by omega) (by omega) el (by rw [hz0]; unfold numC; simp), Or.inr (Or.inr ⟨h0, h1, rfl, rfl, rfl⟩)⟩
              obtain ⟨y1, pk, po, pf, ok1, ok2, isp, hl1, hl2, hcase⟩ := hsum
              have L1 := Lib.hid hl1
              have L2 := Lib.hid hl2
              have HCASE := Lib.hid hcase
              clear hl1 hl2 hcase hqk hoc4
              obtain ⟨x0, x1, x2, x3, x4, x5, x6, x7, x8, y0, y1', y2, y3, y4, y5, y6, y7, y8⟩ := HBG4.out
              obtain ⟨p0, p1, p2⟩ := HP4.out
              go_wp2_with fail
              (with_reducible refine (L1.out _ (Below.refl _ _)).mono ?_)
              rintro e w5 ⟨rfl, hb5⟩
              clear x0 x1 x2 x3 x4 x5 x6 x7 x8 y0 y1' y2 y3 y4 y5 y6 y7 y8 p0 p1 p2
              go_upto_region 28 with fail
              generalize hW6 : w5.alloc (.cells #[.int .i64 y1, .int .i64 0, .int .i64 0, .int .i64 0, .bool false] 74) = W6
              obtain ⟨V1, hV1⟩ : ∃ V1, V1 = w5.heap.size := ⟨_, rfl⟩
              rw [← hV1]
              have hb6 : Below W4.heap.size W4 W6 := by rw [← hW6]; exact hb5.alloc hb5.size _
              have HB6 := Lib.hid hb6
              have HV1 : Hid (W6.cell? ⟨V1, 0, none⟩ = some (.int .i64 y1)) := Lib.hid (by rw [← hW6, hV1]; exact cell_new _ _ _ _ _ rfl)
              have HBG6 := Lib.hid (HBG4.out.below hb6)
              have HP6 := Lib.hid (HP4.out.below hb6)
              clear hW6 hV1 hb5 hb6 L1 HBG4 HP4
              obtain ⟨x0, x1, x2, x3, x4, x5, x6, x7, x8, y0, y1', y2, y3, y4, y5, y6, y7, y8⟩ := HBG6.out
              obtain ⟨p0, p1, p2⟩ := HP6.out
              go_wp2_with fail
              (with_reducible refine (L2.out _ HB6.out).mono ?_)
              rintro e w7 ⟨rfl, hb7⟩
              clear x0 x1 x2 x3 x4 x5 x6 x7 x8 y0 y1' y2 y3 y4 y5 y6 y7 y8 p0 p1 p2
              go_upto_region 29 with fail
              generalize hW8 : w7.alloc (.cells #[.int .i64 0, .int .i64 pk, .int .i64 po, .int .i64 pf, .bool isp] 74) = W8
              obtain ⟨V2, hV2⟩ : ∃ V2, V2 = w7.heap.size := ⟨_, rfl⟩
              rw [← hV2]
              have hb8 : Below W6.heap.size W6 W8 := by rw [← hW8]; exact hb7.alloc hb7.size _
              have HR8 : Hid (Below wy.heap.size wy W8) := Lib.hid ((HR4.out.trans (HB6.out.mono HR4.out.size)).trans (hb8.mono (Nat.le_trans HR4.out.size HB6.out.size)))
              have v1 : W8.cell? ⟨V1, 0, none⟩ = some (.int .i64 y1) := by rw [hb8.cell (by exact lt_of_cell HV1.out)]; exact HV1.out
              have v21 : W8.cell? ⟨V2, 1, none⟩ = some (.int .i64 pk) := by rw [← hW8, hV2]; exact cell_new _ _ _ _ _ rfl
              have v22 : W8.cell? ⟨V2, 2, none⟩ = some (.int .i64 po) := by rw [← hW8, hV2]; exact cell_new _ _ _ _ _ rfl
              have v23 : W8.cell? ⟨V2, 3, none⟩ = some (.int .i64 pf) := by rw [← hW8, hV2]; exact cell_new _ _ _ _ _ rfl
              have g8 : W8.cell? ⟨b, off + k, none⟩ = some (.int .i64 x) := by
                have h1 : b < wy.heap.size := Nat.lt_of_lt_of_le HG.out.1 HBy.out.size
                rw [HR8.out.cell (by exact h1), HBy.out.cell (by exact HG.out.1)]
                exact HG.out.2
              clear hW8 hV2 hb7 hb8 L2 HBG6 HP6 HB6 HV1 HR4
              have ha3 := i64_and3 x
              have HA3 := Lib.hid ha3
              clear ha3
              rcases HCASE.out with ⟨h0, rfl, rfl⟩ | ⟨h1, rfl, rfl, rfl, rfl, rfl⟩ | ⟨h0, h1, rfl, rfl, rfl⟩
              · have ha : bits .and .i64 x 3 = 0 := HA3.out.trans h0
                clear h0 HCASE
                go_wp2_with fail
                go_roundw
                case rel => exact ⟨k + 1, by go_num, by omega, HR8⟩
                case measure => simp [intOf]; omega
              · have ha : bits .and .i64 x 3 = 1 := HA3.out.trans h1
                have hx6 := i64_and63 x
                clear h1 HCASE
                go_upto_region 36 with fail
                have SD : Hid ((W8.cell? ⟨V2, 1, none⟩ = some (.int .i64 1) ∧ W8.cell? ⟨V2, 2, none⟩ = some (.int .i64 1) ∧ W8.cell? ⟨V2, 3, none⟩ = some (.int .i64 (x % 64))) ∧ W8.cell? ⟨b, off + k, none⟩ = some (.int .i64 x)) := Lib.hid ⟨⟨v21, v22, v23⟩, g8⟩
                have SE : Hid ((W8.drew.cell? ⟨V2, 1, none⟩ = some (.int .i64 1) ∧ W8.drew.cell? ⟨V2, 2, none⟩ = some (.int .i64 1) ∧ W8.drew.cell? ⟨V2, 3, none⟩ = some (.int .i64 (x % 64))) ∧ W8.drew.cell? ⟨b, off + k, none⟩ = some (.int .i64 x)) := Lib.hid ⟨⟨v21, v22, v23⟩, g8⟩
                clear v1 v21 v22 v23 g8
                refine wp_region_held_drew (S := (fun w' => (w'.cell? ⟨V2, 1, none⟩ = some (.int .i64 1) ∧ w'.cell? ⟨V2, 2, none⟩ = some (.int .i64 1) ∧ w'.cell? ⟨V2, 3, none⟩ = some (.int .i64 (x % 64))) ∧ w'.cell? ⟨b, off + k, none⟩ = some (.int .i64 x))) (by kernel_rfl) (by (first | (with_reducible exact SD.out) | (with_reducible exact SE.out))) (fun hHeld => ?_)
                refine takeD (i := 0) (d := 137) (v := ?_) rfl rfl (by kernel_rfl) (by kernel_rfl) (by kernel_rfl) (fun _ _ _ h => h) (Or.inl ⟨by rfl, ?_⟩) (by assumption) ?_
                rotate_left
                · intro w hSw
                  obtain ⟨⟨v21, v22, v23⟩, g8⟩ := hSw
                  go_simp
                  (try with_reducible rfl)
                (try simp only [Act.put, List.setIfInBounds_toArray, List.set_cons_zero, List.set_cons_succ])
                refine takeD (i := 1) (d := 138) (v := ?_) rfl rfl (by kernel_rfl) (by kernel_rfl) (by kernel_rfl) (fun _ _ _ h => h) (Or.inl ⟨by rfl, ?_⟩) (by assumption) ?_
                rotate_left
                · intro w hSw
                  obtain ⟨⟨v21, v22, v23⟩, g8⟩ := hSw
                  go_simp
                  (try with_reducible rfl)
                (try simp only [Act.put, List.setIfInBounds_toArray, List.set_cons_zero, List.set_cons_succ])
                refine takeD (i := 2) (d := 139) (v := ?_) rfl rfl (by kernel_rfl) (by kernel_rfl) (by kernel_rfl) (fun _ _ _ h => h) (Or.inl ⟨by rfl, ?_⟩) (by assumption) ?_
                rotate_left
                · intro w hSw
                  obtain ⟨⟨v21, v22, v23⟩, g8⟩ := hSw
                  go_simp
                  (try with_reducible rfl)
                (try simp only [Act.put, List.setIfInBounds_toArray, List.set_cons_zero, List.set_cons_succ])
                refine takeD (i := 3) (d := 140) (v := ?_) rfl rfl (by kernel_rfl) (by kernel_rfl) (by kernel_rfl) (fun _ _ _ h => h) (Or.inl ⟨by rfl, ?_⟩) (by assumption) ?_
                rotate_left
                · intro w hSw
                  obtain ⟨⟨v21, v22, v23⟩, g8⟩ := hSw
                  go_simp
                  (try with_reducible rfl)
                (try simp only [Act.put, List.setIfInBounds_toArray, List.set_cons_zero, List.set_cons_succ])
                refine takeD (i := 4) (d := 141) (v := ?_) rfl rfl (by kernel_rfl) (by kernel_rfl) (by kernel_rfl) (fun _ _ _ h => h) (Or.inl ⟨by rfl, ?_⟩) (by assumption) ?_
                rotate_left
                · intro w hSw
                  obtain ⟨⟨v21, v22, v23⟩, g8⟩ := hSw
                  go_simp
                  (try with_reducible rfl)
                (try simp only [Act.put, List.setIfInBounds_toArray, List.set_cons_zero, List.set_cons_succ])
                refine takeD (i := 5) (d := 142) (v := ?_) rfl rfl (by kernel_rfl) (by kernel_rfl) (by kernel_rfl) (fun _ _ _ h => h) (Or.inl ⟨by rfl, ?_⟩) (by assumption) ?_
                rotate_left
                · intro w hSw
                  obtain ⟨⟨v21, v22, v23⟩, g8⟩ := hSw
                  go_simp
                  (try with_reducible rfl)
                (try simp only [Act.put, List.setIfInBounds_toArray, List.set_cons_zero, List.set_cons_succ])
                refine takeD (i := 6) (d := 143) (v := ?_) rfl rfl (by kernel_rfl) (by kernel_rfl) (by kernel_rfl) (fun _ _ _ h => h) (Or.inl ⟨by rfl, ?_⟩) (by assumption) ?_
                rotate_left
                · intro w hSw
                  obtain ⟨⟨v21, v22, v23⟩, g8⟩ := hSw
                  go_simp
                  (try with_reducible rfl)
                (try simp only [Act.put, List.setIfInBounds_toArray, List.set_cons_zero, List.set_cons_succ])
                refine takeD (i := 7) (d := 144) (v := ?_) rfl rfl (by kernel_rfl) (by kernel_rfl) (by kernel_rfl) (fun _ _ _ h => h) (Or.inl ⟨by rfl, ?_⟩) (by assumption) ?_
                rotate_left
                · intro w hSw
                  obtain ⟨⟨v21, v22, v23⟩, g8⟩ := hSw
                  go_simp
                  (try with_reducible rfl)
                (try simp only [Act.put, List.setIfInBounds_toArray, List.set_cons_zero, List.set_cons_succ])
                refine takeD (i := 8) (d := 145) (v := ?_) rfl rfl (by kernel_rfl) (by kernel_rfl) (by kernel_rfl) (fun _ _ _ h => h) (Or.inl ⟨by rfl, ?_⟩) (by assumption) ?_
                rotate_left
                · intro w hSw
                  obtain ⟨⟨v21, v22, v23⟩, g8⟩ := hSw
                  go_simp
                  (try with_reducible rfl)
                (try simp only [Act.put, List.setIfInBounds_toArray, List.set_cons_zero, List.set_cons_succ])
                refine takeD (i := 9) (d := 146) (v := ?_) rfl rfl (by kernel_rfl) (by kernel_rfl) (by kernel_rfl) (fun _ _ _ h => h) (Or.inl ⟨by rfl, ?_⟩) (by assumption) ?_
                rotate_left
                · intro w hSw
                  obtain ⟨⟨v21, v22, v23⟩, g8⟩ := hSw
                  go_simp
                  (try with_reducible rfl)
                (try simp only [Act.put, List.setIfInBounds_toArray, List.set_cons_zero, List.set_cons_succ])
                refine takeD (i := 10) (d := 147) (v := ?_) rfl rfl (by kernel_rfl) (by kernel_rfl) (by kernel_rfl) (fun _ _ _ h => h) (Or.inl ⟨by rfl, ?_⟩) (by assumption) ?_
                rotate_left
                · intro w hSw
                  obtain ⟨⟨v21, v22, v23⟩, g8⟩ := hSw
                  go_simp
                  (try with_reducible rfl)
                (try simp only [Act.put, List.setIfInBounds_toArray, List.set_cons_zero, List.set_cons_succ])
                refine takeD (i := 11) (d := 148) (v := ?_) rfl rfl (by kernel_rfl) (by kernel_rfl) (by kernel_rfl) (fun _ _ _ h => h) (Or.inl ⟨by rfl, ?_⟩) (by assumption) ?_
                rotate_left
                · intro w hSw
                  obtain ⟨⟨v21, v22, v23⟩, g8⟩ := hSw
                  go_simp
                  (try with_reducible rfl)
                (try simp only [Act.put, List.setIfInBounds_toArray, List.set_cons_zero, List.set_cons_succ])
                refine takeD (i := 12) (d := 149) (v := ?_) rfl rfl (by kernel_rfl) (by kernel_rfl) (by kernel_rfl) (fun _ _ _ h => h) (Or.inl ⟨by rfl, ?_⟩) (by assumption) ?_
                rotate_left
                · intro w hSw
                  obtain ⟨⟨v21, v22, v23⟩, g8⟩ := hSw
                  go_simp
                  (try with_reducible rfl)
                (try simp only [Act.put, List.setIfInBounds_toArray, List.set_cons_zero, List.set_cons_succ])
                refine takeD (i := 13) (d := 150) (v := ?_) rfl rfl (by kernel_rfl) (by kernel_rfl) (by kernel_rfl) (fun _ _ _ h => h) (Or.inl ⟨by rfl, ?_⟩) (by assumption) ?_
                rotate_left
                · intro w hSw
                  obtain ⟨⟨v21, v22, v23⟩, g8⟩ := hSw
                  go_simp
                  (try with_reducible rfl)
                (try simp only [Act.put, List.setIfInBounds_toArray, List.set_cons_zero, List.set_cons_succ])
                refine takeD (i := 14) (d := 151) (v := ?_) rfl rfl (by kernel_rfl) (by kernel_rfl) (by kernel_rfl) (fun _ _ _ h => h) (Or.inl ⟨by rfl, ?_⟩) (by assumption) ?_
                rotate_left
                · intro w hSw
                  obtain ⟨⟨v21, v22, v23⟩, g8⟩ := hSw
                  go_simp
                  (try with_reducible rfl)
                (try simp only [Act.put, List.setIfInBounds_toArray, List.set_cons_zero, List.set_cons_succ])
                refine takeD (i := 15) (d := 152) (v := ?_) rfl rfl (by kernel_rfl) (by kernel_rfl) (by kernel_rfl) (fun _ _ _ h => h) (Or.inl ⟨by rfl, ?_⟩) (by assumption) ?_
                rotate_left
                · intro w hSw
                  obtain ⟨⟨v21, v22, v23⟩, g8⟩ := hSw
                  go_simp
                  (try with_reducible rfl)
                (try simp only [Act.put, List.setIfInBounds_toArray, List.set_cons_zero, List.set_cons_succ])
                refine takeD (i := 16) (d := 153) (v := ?_) rfl rfl (by kernel_rfl) (by kernel_rfl) (by kernel_rfl) (fun _ _ _ h => h) (Or.inl ⟨by rfl, ?_⟩) (by assumption) ?_
                rotate_left
                · intro w hSw
                  obtain ⟨⟨v21, v22, v23⟩, g8⟩ := hSw
                  go_simp
                  (try with_reducible rfl)
                (try simp only [Act.put, List.setIfInBounds_toArray, List.set_cons_zero, List.set_cons_succ])
                refine wpAnyH_done (by kernel_rfl) ?_ _
                clear hHeld
                clear SD SE
                go_wp2_with fail
                go_roundw
                case rel => exact ⟨k + 1, by go_num, by omega, Lib.hid HR8.out.drew⟩
                case measure => simp [intOf]; omega
              · obtain ⟨m, hm⟩ : ∃ m, m = x % 4 := ⟨_, rfl⟩
                rw [← hm] at h0 h1
                have ha : bits .and .i64 x 3 = m := HA3.out.trans hm.symm
                clear hm HCASE
                go_upto_region 30 with fail
                have SD : Hid (W8.cell? ⟨V1, 0, none⟩ = some (.int .i64 x) ∧ W8.cell? ⟨b, off + k, none⟩ = some (.int .i64 x)) := Lib.hid ⟨v1, g8⟩
                have SE : Hid (W8.drew.cell? ⟨V1, 0, none⟩ = some (.int .i64 x) ∧ W8.drew.cell? ⟨b, off + k, none⟩ = some (.int .i64 x)) := Lib.hid ⟨v1, g8⟩
                clear v1 v21 v22 v23 g8
                refine wp_region_held_drew (S := (fun w' => w'.cell? ⟨V1, 0, none⟩ = some (.int .i64 x) ∧ w'.cell? ⟨b, off + k, none⟩ = some (.int .i64 x))) (by kernel_rfl) (by (first | (with_reducible exact SD.out) | (with_reducible exact SE.out))) (fun hHeld => ?_)
                refine takeD (i := 0) (d := 115) (v := ?_) rfl rfl (by kernel_rfl) (by kernel_rfl) (by kernel_rfl) (fun _ _ _ h => h) (Or.inl ⟨by rfl, ?_⟩) (by assumption) ?_
                rotate_left
                · intro w hSw
                  obtain ⟨v1, g8⟩ := hSw
                  go_simp
                  (try with_reducible rfl)
                (try simp only [Act.put, List.setIfInBounds_toArray, List.set_cons_zero, List.set_cons_succ])
                refine takeD (i := 1) (d := 116) (v := ?_) rfl rfl (by kernel_rfl) (by kernel_rfl) (by kernel_rfl) (fun _ _ _ h => h) (Or.inl ⟨by rfl, ?_⟩) (by assumption) ?_
                rotate_left
                · intro w hSw
                  obtain ⟨v1, g8⟩ := hSw
                  go_simp
                  (try with_reducible rfl)
                (try simp only [Act.put, List.setIfInBounds_toArray, List.set_cons_zero, List.set_cons_succ])
                refine takeD (i := 2) (d := 117) (v := ?_) rfl rfl (by kernel_rfl) (by kernel_rfl) (by kernel_rfl) (fun _ _ _ h => h) (Or.inl ⟨by rfl, ?_⟩) (by assumption) ?_
                rotate_left
                · intro w hSw
                  obtain ⟨v1, g8⟩ := hSw
                  go_simp
                  (try with_reducible rfl)
                (try simp only [Act.put, List.setIfInBounds_toArray, List.set_cons_zero, List.set_cons_succ])
                refine takeD (i := 3) (d := 118) (v := ?_) rfl rfl (by kernel_rfl) (by kernel_rfl) (by kernel_rfl) (fun _ _ _ h => h) (Or.inl ⟨by rfl, ?_⟩) (by assumption) ?_
                rotate_left
                · intro w hSw
                  obtain ⟨v1, g8⟩ := hSw
                  go_simp
                  (try with_reducible rfl)
                (try simp only [Act.put, List.setIfInBounds_toArray, List.set_cons_zero, List.set_cons_succ])
                refine takeD (i := 4) (d := 119) (v := ?_) rfl rfl (by kernel_rfl) (by kernel_rfl) (by kernel_rfl) (fun _ _ _ h => h) (Or.inl ⟨by rfl, ?_⟩) (by assumption) ?_
                rotate_left
                · intro w hSw
                  obtain ⟨v1, g8⟩ := hSw
                  go_simp
                  (try with_reducible rfl)
                (try simp only [Act.put, List.setIfInBounds_toArray, List.set_cons_zero, List.set_cons_succ])
                refine takeD (i := 5) (d := 120) (v := ?_) rfl rfl (by kernel_rfl) (by kernel_rfl) (by kernel_rfl) (fun _ _ _ h => h) (Or.inl ⟨by rfl, ?_⟩) (by assumption) ?_
                rotate_left
                · intro w hSw
                  obtain ⟨v1, g8⟩ := hSw
                  go_simp
                  (try with_reducible rfl)
                (try simp only [Act.put, List.setIfInBounds_toArray, List.set_cons_zero, List.set_cons_succ])
                refine takeD (i := 6) (d := 121) (v := ?_) rfl rfl (by kernel_rfl) (by kernel_rfl) (by kernel_rfl) (fun _ _ _ h => h) (Or.inl ⟨by rfl, ?_⟩) (by assumption) ?_
                rotate_left
                · intro w hSw
                  obtain ⟨v1, g8⟩ := hSw
                  go_simp
                  (try with_reducible rfl)
                (try simp only [Act.put, List.setIfInBounds_toArray, List.set_cons_zero, List.set_cons_succ])
                refine takeD (i := 7) (d := 122) (v := ?_) rfl rfl (by kernel_rfl) (by kernel_rfl) (by kernel_rfl) (fun _ _ _ h => h) (Or.inl ⟨by rfl, ?_⟩) (by assumption) ?_
                rotate_left
                · intro w hSw
                  obtain ⟨v1, g8⟩ := hSw
                  go_simp
                  (try with_reducible rfl)
                (try simp only [Act.put, List.setIfInBounds_toArray, List.set_cons_zero, List.set_cons_succ])
                refine takeD (i := 8) (d := 123) (v := ?_) rfl rfl (by kernel_rfl) (by kernel_rfl) (by kernel_rfl) (fun _ _ _ h => h) (Or.inl ⟨by rfl, ?_⟩) (by assumption) ?_
                rotate_left
                · intro w hSw
                  obtain ⟨v1, g8⟩ := hSw
                  go_simp
                  (try with_reducible rfl)
                (try simp only [Act.put, List.setIfInBounds_toArray, List.set_cons_zero, List.set_cons_succ])
                refine takeD (i := 9) (d := 124) (v := ?_) rfl rfl (by kernel_rfl) (by kernel_rfl) (by kernel_rfl) (fun _ _ _ h => h) (Or.inl ⟨by rfl, ?_⟩) (by assumption) ?_
                rotate_left
                · intro w hSw
                  obtain ⟨v1, g8⟩ := hSw
                  go_simp
                  (try with_reducible rfl)
                (try simp only [Act.put, List.setIfInBounds_toArray, List.set_cons_zero, List.set_cons_succ])
                refine takeD (i := 10) (d := 125) (v := ?_) rfl rfl (by kernel_rfl) (by kernel_rfl) (by kernel_rfl) (fun _ _ _ h => h) (Or.inl ⟨by rfl, ?_⟩) (by assumption) ?_
                rotate_left
                · intro w hSw
                  obtain ⟨v1, g8⟩ := hSw
                  go_simp
                  (try with_reducible rfl)
                (try simp only [Act.put, List.setIfInBounds_toArray, List.set_cons_zero, List.set_cons_succ])
                refine takeD (i := 11) (d := 126) (v := ?_) rfl rfl (by kernel_rfl) (by kernel_rfl) (by kernel_rfl) (fun _ _ _ h => h) (Or.inl ⟨by rfl, ?_⟩) (by assumption) ?_
                rotate_left
                · intro w hSw
                  obtain ⟨v1, g8⟩ := hSw
                  go_simp
                  (try with_reducible rfl)
                (try simp only [Act.put, List.setIfInBounds_toArray, List.set_cons_zero, List.set_cons_succ])
                refine takeD (i := 12) (d := 127) (v := ?_) rfl rfl (by kernel_rfl) (by kernel_rfl) (by kernel_rfl) (fun _ _ _ h => h) (Or.inl ⟨by rfl, ?_⟩) (by assumption) ?_
                rotate_left
                · intro w hSw
                  obtain ⟨v1, g8⟩ := hSw
                  go_simp
                  (try with_reducible rfl)
                (try simp only [Act.put, List.setIfInBounds_toArray, List.set_cons_zero, List.set_cons_succ])
                refine takeD (i := 13) (d := 128) (v := ?_) rfl rfl (by kernel_rfl) (by kernel_rfl) (by kernel_rfl) (fun _ _ _ h => h) (Or.inl ⟨by rfl, ?_⟩) (by assumption) ?_
                rotate_left
                · intro w hSw
                  obtain ⟨v1, g8⟩ := hSw
                  go_simp
                  (try with_reducible rfl)
                (try simp only [Act.put, List.setIfInBounds_toArray, List.set_cons_zero, List.set_cons_succ])
                refine wpAnyH_done (by kernel_rfl) ?_ _
                clear hHeld
                clear SD SE
                go_wp2_with fail
                go_roundw
                case rel => exact ⟨k + 1, by go_num, by omega, Lib.hid HR8.out.drew⟩
                case measure => simp [intOf]; omega
            · obtain rfl : n = k := by omega
              have LA := Lib.hid (copy_41 HOCz.out (HOAy.out.below HR2.out))
              have LB := Lib.hid (fun (w' : World) (hb : Below wr.heap.size wr w') => copy_odd (HOCz.out.below hb) ((HOAy.out.below HR2.out).below hb))
              clear HBGz HOCz HBGy HPTy HBy HOC HOAy HCAT
              go_wp2_with fail
              (with_reducible refine LA.out.mono ?_)
              rintro e w5 ⟨rfl, hb5⟩
              have HB5 := Lib.hid hb5
              have p0' : w5.cell? ⟨T, 0, none⟩ = some (.int .i64 1) := by rw [hb5.cell (by exact lt_of_cell p0)]; exact p0
              have p1' : w5.cell? ⟨T, 1, none⟩ = some (.int .i64 o) := by rw [hb5.cell (by exact lt_of_cell p0)]; exact p1
              have p2' : w5.cell? ⟨T, 2, none⟩ = some (.int .i64 40) := by rw [hb5.cell (by exact lt_of_cell p0)]; exact p2
              clear p0 p1 p2 hb5 LA
              go_wp2_with fail
              (with_reducible refine (LB.out _ HB5.out).mono ?_)
              rintro e w6 ⟨rfl, hb6⟩
              have HB6 : Hid (Below w.heap.size w w6) := Lib.hid (HBz.out.trans ((HB5.out.trans (hb6.mono HB5.out.size)).mono HBz.out.size))
              clear hb6 p0' p1' p2' LB
              go_wp2_with fail
              go_ret
              exact ⟨rfl, HB6.out⟩
end Go.Proofs.Ytdkhanjfncbfnaa
