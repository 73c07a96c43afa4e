import Derived.Test.YtdkhanjfncbfnaaOsWn
import Derived.BigQuiet
namespace Go.Proofs.Ytdkhanjfncbfnaa
open Go Go.RowKit
set_option linter.unusedVariables false
set_option linter.unusedSimpArgs false

/-- A type in block X. -/
structure TyAt (w : World) (X : Nat) (sz : Int) (sg sc : Bool) : Prop where
  t0 : w.cell? ⟨X, 0, none⟩ = some (.int .i64 1)
  t1 : w.cell? ⟨X, 1, none⟩ = some (.int .i64 sz)
  t2 : w.cell? ⟨X, 2, none⟩ = some (.bool sg)
  t3 : w.cell? ⟨X, 3, none⟩ = some (.bool sc)
  t4 : w.cell? ⟨X, 4, none⟩ = some (.pointer none)
  t5 : w.cell? ⟨X, 5, none⟩ = some (.int .i64 0)
  t6 : w.cell? ⟨X, 6, none⟩ = some (.int .i64 0)
  t7 : w.cell? ⟨X, 7, none⟩ = some (.slice none 0 0)
  t8 : w.cell? ⟨X, 8, none⟩ = some (.pointer none)
  f3 : w.frozen? ⟨X, 3, none⟩ = false
theorem TyAt.keep {w w' : World} {X : Nat} {sz : Int} {sg sc : Bool} (h : TyAt w X sz sg sc) (e : w'.heap[X]? = w.heap[X]?) : TyAt w' X sz sg sc := ⟨by rw [World.cell?_of_block e]; exact h.t0, by rw [World.cell?_of_block e]; exact h.t1, by rw [World.cell?_of_block e]; exact h.t2, by rw [World.cell?_of_block e]; exact h.t3, by rw [World.cell?_of_block e]; exact h.t4, by rw [World.cell?_of_block e]; exact h.t5, by rw [World.cell?_of_block e]; exact h.t6, by rw [World.cell?_of_block e]; exact h.t7, by rw [World.cell?_of_block e]; exact h.t8, by rw [World.frozen?_of_block e]; exact h.f3⟩
theorem TyAt.lt {w : World} {X : Nat} {sz : Int} {sg sc : Bool} (h : TyAt w X sz sg sc) : X < w.heap.size := lt_of_cell h.t0
theorem TyAt.below {w w' : World} {X : Nat} {sz : Int} {sg sc : Bool} (h : TyAt w X sz sg sc) (hb : Below w.heap.size w w') : TyAt w' X sz sg sc := h.keep (hb.block _ h.lt)
theorem TyAt.turn {w w' : World} {X c : Nat} {sz : Int} {sg sc : Bool} (h : TyAt w X sz sg sc) (ht : Turn c w w') (hX : X ≠ c) : TyAt w' X sz sg sc := h.keep (ht.block _ h.lt hX)
theorem TyAt.set {w : World} {X : Nat} {sz : Int} {sg sc : Bool} (h : TyAt w X sz sg sc) (b : Bool) : TyAt (w.setCell ⟨X, 3, none⟩ (.bool b)) X sz sg b := ⟨by rw [World.cell?_setCell_other _ _ _ _ (by simp)]; exact h.t0, by rw [World.cell?_setCell_other _ _ _ _ (by simp)]; exact h.t1, by rw [World.cell?_setCell_other _ _ _ _ (by simp)]; exact h.t2, World.cell?_setCell_same _ _ _ h.t3, by rw [World.cell?_setCell_other _ _ _ _ (by simp)]; exact h.t4, by rw [World.cell?_setCell_other _ _ _ _ (by simp)]; exact h.t5, by rw [World.cell?_setCell_other _ _ _ _ (by simp)]; exact h.t6, by rw [World.cell?_setCell_other _ _ _ _ (by simp)]; exact h.t7, by rw [World.cell?_setCell_other _ _ _ _ (by simp)]; exact h.t8, by rw [World.frozen?_setCell]; exact h.f3⟩
theorem tyAt_new (w : World) (sz : Int) (sg sc : Bool) : TyAt (w.alloc (.cells #[.int .i64 1, .int .i64 sz, .bool sg, .bool sc, .pointer none, .int .i64 0, .int .i64 0, .slice none 0 0, .pointer none] 57)) w.heap.size sz sg sc := ⟨cell_new _ _ _ _ _ rfl, cell_new _ _ _ _ _ rfl, cell_new _ _ _ _ _ rfl, cell_new _ _ _ _ _ rfl, cell_new _ _ _ _ _ rfl, cell_new _ _ _ _ _ rfl, cell_new _ _ _ _ _ rfl, cell_new _ _ _ _ _ rfl, cell_new _ _ _ _ _ rfl, frozen_new _ _ _ _ _ rfl⟩
structure PtAt (w : World) (P : Nat) (q : Int) : Prop where
  p0 : w.cell? ⟨P, 0, none⟩ = some (.int .i64 1)
  p1 : w.cell? ⟨P, 1, none⟩ = some (.int .i64 0)
  p2 : w.cell? ⟨P, 2, none⟩ = some (.int .i64 q)
  f2 : w.frozen? ⟨P, 2, none⟩ = false
theorem PtAt.keep {w w' : World} {P : Nat} {q : Int} (h : PtAt w P q) (e : w'.heap[P]? = w.heap[P]?) : PtAt w' P q := ⟨by rw [World.cell?_of_block e]; exact h.p0, by rw [World.cell?_of_block e]; exact h.p1, by rw [World.cell?_of_block e]; exact h.p2, by rw [World.frozen?_of_block e]; exact h.f2⟩
theorem PtAt.below {w w' : World} {P : Nat} {q : Int} (h : PtAt w P q) (hb : Below w.heap.size w w') : PtAt w' P q := h.keep (hb.block _ (lt_of_cell h.p0))
theorem PtAt.turn {w w' : World} {P c : Nat} {q : Int} (h : PtAt w P q) (ht : Turn c w w') (hP : P ≠ c) : PtAt w' P q := h.keep (ht.block _ (lt_of_cell h.p0) hP)
theorem PtAt.set {w : World} {P : Nat} {q : Int} (h : PtAt w P q) (x : Int) : PtAt (w.setCell ⟨P, 2, none⟩ (.int .i64 x)) P x := ⟨by rw [World.cell?_setCell_other _ _ _ _ (by simp)]; exact h.p0, by rw [World.cell?_setCell_other _ _ _ _ (by simp)]; exact h.p1, World.cell?_setCell_same _ _ _ h.p2, by rw [World.frozen?_setCell]; exact h.f2⟩
section
variable {w w' : World} {mb pb : Nat} {es : Array MapEntry} {clk : Nat} {o : Int} {s c N : Nat} {sc : Bool} {C : Nat → Cl}
theorem Ob.stN (h : Ob w mb pb es clk o s c N (fun _ => sc) C) (q sz : Nat) (hsz : Sz sz) (hq : q + sz ≤ N) (sg : Bool) (x : Int) :
    Calls Try.prog 22 #[.pointer (some ⟨mb, 0, none⟩), .agg #[.int .i64 1, .int .i64 o, .int .i64 q], .agg #[.int .i64 1, .int .i64 sz, .bool sg, .bool sc, .pointer none, .int .i64 0, .int .i64 0, .slice none 0 0, .pointer none], .agg #[.int .i64 x, .int .i64 0, .int .i64 0, .int .i64 0, .bool false]] w fun e w' => e = .returned (.bool true) ∧ Turn c w w' ∧ Ob w' mb pb es clk o s c N (fun _ => sc) (putC C q sz x) :=
  h.store q sz hsz hq sg sc (fun _ _ => rfl) x 0 0 0 false
theorem Ob.ldN {x : Int} (q sz : Nat) (hsz : Sz sz) (h : Ob w mb pb es clk o s c N (fun _ => sc) (putC C q sz x)) (hq : q + sz ≤ N) (sg : Bool) :
    Calls Try.prog 23 #[.pointer (some ⟨mb, 0, none⟩), .agg #[.int .i64 1, .int .i64 o, .int .i64 q], .agg #[.int .i64 1, .int .i64 sz, .bool sg, .bool sc, .pointer none, .int .i64 0, .int .i64 0, .slice none 0 0, .pointer none]] w fun e w' => e = .returned (.tuple #[.agg #[.int .i64 (valOf sg sz (x % 256 ^ sz)), .int .i64 0, .int .i64 0, .int .i64 0, .bool false], .bool true]) ∧ Below w.heap.size w w' := by
  have hl := h.load q sz hsz hq sg sc (fun _ _ => rfl) (fun i hi => by rw [putC_in C q sz i x hi]; exact ⟨rfl, byteOf_range x i⟩)
  have e : sumB (fun i => (putC C q sz x (q + i)).b) sz = x % 256 ^ sz := by
    rw [sumB_congr (B' := byteOf x) sz (fun i hi => by rw [putC_in C q sz i x hi]; rfl)]
    exact sumB_byte x sz
  rw [e] at hl
  exact hl
theorem Ob.ldB {x : Int} (q sz i : Nat) (hi : i < sz) (h : Ob w mb pb es clk o s c N (fun _ => sc) (putC C q sz x)) (hq : q + sz ≤ N) :
    Calls Try.prog 23 #[.pointer (some ⟨mb, 0, none⟩), .agg #[.int .i64 1, .int .i64 o, .int .i64 ((q + i : Nat) : Int)], .agg #[.int .i64 1, .int .i64 1, .bool false, .bool sc, .pointer none, .int .i64 0, .int .i64 0, .slice none 0 0, .pointer none]] w fun e w' => e = .returned (.tuple #[.agg #[.int .i64 (byteOf x i), .int .i64 0, .int .i64 0, .int .i64 0, .bool false], .bool true]) ∧ Below w.heap.size w w' := by
  have hl := h.load (q + i) 1 (Or.inl rfl) (by omega) false sc (fun _ _ => rfl) (fun j hj => by
    obtain rfl : j = 0 := by omega
    rw [Nat.add_zero, putC_in C q sz i x hi]; exact ⟨rfl, byteOf_range x i⟩)
  have hr := byteOf_range x i
  have e : valOf false 1 (sumB (fun j => (putC C q sz x (q + i + j)).b) 1) = byteOf x i := by
    simp only [sumB, Nat.add_zero]
    rw [putC_in C q sz i x hi]
    unfold valOf numC
    simp
    rw [IntKind.wrap_i64]
    omega
  rw [e] at hl
  exact hl
theorem Ob.ldE (q : Nat) (h : Ob w mb pb es clk o s c N (fun _ => sc) C) (hq : q + 1 ≤ N) (hc : (C q).h ≠ 1) :
    Calls Try.prog 23 #[.pointer (some ⟨mb, 0, none⟩), .agg #[.int .i64 1, .int .i64 o, .int .i64 q], .agg #[.int .i64 1, .int .i64 1, .bool false, .bool sc, .pointer none, .int .i64 0, .int .i64 0, .slice none 0 0, .pointer none]] w fun e w' => e = .returned (.tuple #[.agg #[.int .i64 0, .int .i64 0, .int .i64 0, .int .i64 0, .bool false], .bool false]) ∧ Below w.heap.size w w' :=
  h.load_none q 1 (Or.inl rfl) hq false sc (fun _ _ => rfl) hc
theorem Ob.ldO (q : Nat) (h : Ob w mb pb es clk o s c N (fun _ => sc) C) (hq : q + 1 ≤ N) :
    Calls Try.prog 23 #[.pointer (some ⟨mb, 0, none⟩), .agg #[.int .i64 1, .int .i64 o, .int .i64 q], .agg #[.int .i64 1, .int .i64 1, .bool false, .bool (!sc), .pointer none, .int .i64 0, .int .i64 0, .slice none 0 0, .pointer none]] w fun e w' => e = .returned (.tuple #[.agg #[.int .i64 0, .int .i64 0, .int .i64 0, .int .i64 0, .bool false], .bool false]) ∧ Below w.heap.size w w' :=
  load_no mb 1 o q 1 false (!sc) w (h.acc_lab q 1 (Or.inl rfl) hq false (!sc) ⟨0, by omega, by cases sc <;> simp⟩)
end
theorem make24 (w : World) : (Instr.makeSlice 28 (.int .i64 24) (.int .i64 24)).run Try.prog w = .ok (.slice (some ⟨w.heap.size, 0, none⟩) 24 24) (w.alloc (.cells (madeCells #[.bool false] 24) 4)) := make_bools 24 (by omega) w
set_option maxRecDepth 100000 in
set_option maxHeartbeats 16000000 in
theorem back_any (a0 kind n : Int) (h0 : -9223372036854775808 ≤ n) (h1 : n ≤ 9223372036854775807) (w : World) :
    Calls Try.prog 5 #[.int .i64 a0, .int .i64 kind, .int .i64 n] w (BoolRes true w) := by
  have HNN := Lib.hid (And.intro h0 h1)
  clear h0 h1
  have hm24 := make24
  obtain ⟨kk, hk, hk0, hk1⟩ : ∃ q, bits .and .i64 kind 15 = q ∧ 0 ≤ q ∧ q ≤ 15 := ⟨kind % 16, i64_and15 kind, by omega, by omega⟩
  obtain ⟨sz, sg, sc, hsz, hty⟩ := typ_any kk hk0 hk1
  have HTY := Lib.hid hty
  have HSZ := Lib.hid hsz
  clear hty hsz hk0 hk1
  go_enter Try.func5, Try.ntmps5
  go_wp2_with fail
  refine (fit_any _).mono ?_
  rintro e w1 ⟨rfl, hb1⟩
  have HB1 := Lib.hid hb1
  clear hb1
  go_wp2_with (go_at_call 10; (with_reducible refine (new_any _).mono ?_); rintro e w' ⟨rfl, rfl⟩)
  generalize hW1 : (w1.alloc (.cells #[.int .i64 0, .map none] 91)).alloc (.cells (madeCells #[.bool false] 24) 4) = W1
  have hbw : Below w1.heap.size w1 W1 := by rw [← hW1]; exact ((Below.refl _ _).alloc (Nat.le_refl _) _).alloc (by simp) _
  have hs1 : W1.heap.size = w1.heap.size + 2 := by rw [← hW1]; simp
  have c0 : W1.cell? ⟨w1.heap.size, 0, none⟩ = some (.int .i64 0) := by rw [← hW1]; simp
  have c1 : W1.cell? ⟨w1.heap.size, 1, none⟩ = some (.map none) := by rw [← hW1]; simp
  have f0 : W1.frozen? ⟨w1.heap.size, 0, none⟩ = false := by rw [← hW1]; simp
  have f1 : W1.frozen? ⟨w1.heap.size, 1, none⟩ = false := by rw [← hW1]; simp
  have hl : Labs W1 (w1.heap.size + 1) 0 24 (fun _ => false) := by
    have := labs_new _ W1 24 hW1.symm
    simpa using this
  have hbf : ∀ j, W1.frozen? ⟨w1.heap.size + 1, j, none⟩ = false := fun j => by rw [← hW1]; exact frozen_new _ _ _ _ _ (by simp)
  (with_reducible refine (HTY.out W1).mono ?_)
  rintro e w2 ⟨rfl, hb2⟩
  have hz2 := hb2.size
  obtain ⟨mb, hmb⟩ : ∃ mb, mb = w1.heap.size := ⟨_, rfl⟩
  obtain ⟨B, hB⟩ : ∃ B, B = w1.heap.size + 1 := ⟨_, rfl⟩
  rw [← hB] at hl hbf
  rw [← hmb] at c0 c1 f0 f1
  have HB2 : Hid (Below w.heap.size w w2) := Lib.hid (by
    have h := HB1.out.trans (hbw.mono HB1.out.size)
    exact h.trans (hb2.mono h.size))
  have HM := Lib.hid (show w2.cell? ⟨mb, 0, none⟩ = some (.int .i64 0) ∧ w2.cell? ⟨mb, 1, none⟩ = some (.map none) ∧ w2.frozen? ⟨mb, 0, none⟩ = false ∧ w2.frozen? ⟨mb, 1, none⟩ = false from
    ⟨by rw [hb2.cell (by show mb < _; omega)]; exact c0, by rw [hb2.cell (by show mb < _; omega)]; exact c1, by rw [hb2.frozen (by show mb < _; omega)]; exact f0, by rw [hb2.frozen (by show mb < _; omega)]; exact f1⟩)
  have HL := Lib.hid (hl.below hb2 (by omega))
  have HBF := Lib.hid (show ∀ j, w2.frozen? ⟨B, j, none⟩ = false from fun j => by rw [hb2.frozen (by show B < _; omega)]; exact hbf j)
  have HLT := Lib.hid (show w.heap.size ≤ mb ∧ mb < B ∧ B < w2.heap.size by
    have := HB1.out.size
    omega)
  rw [← hB, ← hmb]
  clear hW1 hbw hs1 c0 c1 f0 f1 hl hbf hb2 hz2 hmb hB HB1 HTY hm24 hk
  go_wp2_with fail
  generalize hW2 : w2.alloc (.cells #[.int .i64 1, .int .i64 sz, .bool sg, .bool sc, .pointer none, .int .i64 0, .int .i64 0, .slice none 0 0, .pointer none] 57) = W2
  obtain ⟨X, hX⟩ : ∃ X, X = w2.heap.size := ⟨_, rfl⟩
  have hb2 : Below w2.heap.size w2 W2 := by rw [← hW2]; exact (Below.refl _ _).alloc (Nat.le_refl _) _
  have htx : TyAt W2 X sz sg sc := by rw [← hW2, hX]; exact tyAt_new _ _ _ _
  rw [← hX]
  have HTX := Lib.hid htx
  have HLT2 := Lib.hid (show w.heap.size ≤ mb ∧ mb < B ∧ B < X ∧ X < W2.heap.size ∧ w.heap.size ≤ W2.heap.size by
    have h1 := HLT.out
    have h2 := htx.lt
    omega)
  have HM2 := Lib.hid (show W2.cell? ⟨mb, 0, none⟩ = some (.int .i64 0) ∧ W2.cell? ⟨mb, 1, none⟩ = some (.map none) ∧ W2.frozen? ⟨mb, 0, none⟩ = false ∧ W2.frozen? ⟨mb, 1, none⟩ = false by
    have h := HLT.out
    have hm : mb < w2.heap.size := by omega
    obtain ⟨c0, c1, f0, f1⟩ := HM.out
    exact ⟨by rw [hb2.cell (by exact hm)]; exact c0, by rw [hb2.cell (by exact hm)]; exact c1, by rw [hb2.frozen (by exact hm)]; exact f0, by rw [hb2.frozen (by exact hm)]; exact f1⟩)
  have HL2 := Lib.hid (HL.out.below hb2 HLT.out.2.2)
  have HBF2 := Lib.hid (show ∀ j, W2.frozen? ⟨B, j, none⟩ = false from fun j => by rw [hb2.frozen (by exact HLT.out.2.2)]; exact HBF.out j)
  have HBW2 : Hid (Below w.heap.size w W2) := Lib.hid (HB2.out.trans (hb2.mono HB2.out.size))
  clear hW2 hX htx hb2 HM HL HBF HB2 HLT
  go_loopw [34] (fun s34 wr => ∃ k : Nat, s34 = .int .i64 k ∧ k ≤ 24 ∧ Hid (Turn B W2 wr) ∧ Hid (Labs wr B 0 24 (fun i => decide (i < k) && sc))) (fun s34 _ => 24 - (intOf s34).toNat)
  case atStart => exact ⟨0, rfl, by omega, Lib.hid (Turn.refl _ _), Lib.hid (fun i hi => by have := HL2.out i hi; simpa using this)⟩
  case round =>
    obtain ⟨k, rfl, hk, HT, HK⟩ := hrel
    have hxb : X ≠ B := by have := HLT2.out; omega
    have HTR := Lib.hid (HTX.out.turn HT.out hxb)
    by_cases hlt : k < 24
    · have y0 := HTR.out.t3
      have y1 := HK.out k hlt
      rw [Nat.zero_add] at y1
      have y2 : wr.frozen? ⟨B, k, none⟩ = false := HT.out.fz k (HBF2.out k)
      have hlt2 : (k : Int) < 24 := by omega
      go_wp2_with fail
      go_roundw
      case rel =>
        exact ⟨k + 1, by go_num, by omega, Lib.hid (HT.out.trans (Turn.set ⟨B, k, none⟩ rfl _)), Lib.hid (fun i hi => by
          have := HK.out i hi
          rw [Nat.zero_add] at this ⊢
          by_cases e : i = k
          · subst e
            rw [World.cell?_setCell_same (u := _) _ _ _ y1]
            simp
          · rw [World.cell?_setCell_other _ _ _ _ (by first | (simp; done) | (simp; omega)), this]
            show some (Value.bool (decide (i < k) && sc)) = some (Value.bool (decide (i < k + 1) && sc))
            have : (decide (i < k + 1)) = decide (i < k) := by first | (simp; done) | (simp; omega)
            rw [this])⟩
      case measure => simp [intOf]; omega
    · obtain rfl : k = 24 := by omega
      have hl3 : Labs wr B 0 24 (fun _ => sc) := fun i hi => by
        have := HK.out i hi
        simpa [hi] using this
      have hmr : mb < wr.heap.size := by
        have h1 := HLT2.out
        have h2 := HT.out.size
        omega
      have hBr : B < wr.heap.size := by
        have h1 := HLT2.out
        have h2 := HT.out.size
        omega
      have hBm : B ≠ mb := by have := HLT2.out; omega
      have em : wr.heap[mb]? = W2.heap[mb]? := HT.out.block mb (by have := HLT2.out; omega) hBm.symm
      have HMK := Lib.hid (make_first mb 24 (by omega) B 0 24 (fun _ => sc) wr (by rw [World.cell?_of_block em]; exact HM2.out.1) (by rw [World.cell?_of_block em]; exact HM2.out.2.1) (by rw [World.frozen?_of_block em]; exact HM2.out.2.2.1) (by rw [World.frozen?_of_block em]; exact HM2.out.2.2.2) hl3 hBr hBm)
      clear hl3 em hxb
      go_wp2_with fail
      (with_reducible refine HMK.out.mono ?_)
      rintro e w4 ⟨rfl, pb, s, c, hmade⟩
      have HOB := Lib.hid (hmade.ob hmr (by omega))
      have HB4 : Hid (Below w.heap.size w w4) := Lib.hid (by
        have h := HBW2.out.trans (HT.out.below (by have := HLT2.out; omega) HBW2.out.size)
        exact h.trans (hmade.below (by have := HLT2.out; omega) hmr))
      have HX4 := Lib.hid (HTR.out.keep (hmade.keep X HTR.out.lt (by have := HLT2.out; omega)))
      have HXN := Lib.hid (show X ≠ c ∧ X ≠ s ∧ X ≠ pb ∧ X ≠ mb ∧ w.heap.size ≤ c ∧ X < w4.heap.size by
        have h1 := hmade.c1
        have h2 := hmade.s1
        have h3 := hmade.p1
        have h4 := HTR.out.lt
        have h5 := HLT2.out
        have h6 := hmade.size
        omega)
      clear hmade HMK HTR HT HK hmr hBr hBm HLT2 HM2 HL2 HBF2 HBW2 HTX hlt hk
      go_upto_region 13 with fail
      obtain ⟨q, hq, hq15⟩ : ∃ q : Nat, (wrap64 (a0.tmod 16 + 16)).tmod 16 = q ∧ q ≤ 15 := by
        have h1 := Int.lt_tmod_of_pos a0 (show (0 : Int) < 16 by omega)
        have h2 := Int.tmod_lt_of_pos a0 (show (0 : Int) < 16 by omega)
        have h3 : wrap64 (a0.tmod 16 + 16) = a0.tmod 16 + 16 := by unfold wrap64; omega
        rw [h3, Int.tmod_eq_emod_of_nonneg (by omega)]
        exact ⟨((a0.tmod 16 + 16) % 16).toNat, by omega, by omega⟩
      rw [hq]
      clear hq
      go_upto_region 14 with fail
      generalize hW5 : w4.alloc (.cells #[.int .i64 1, .int .i64 0, .int .i64 q] 38) = W5
      obtain ⟨P, hP⟩ : ∃ P, P = w4.heap.size := ⟨_, rfl⟩
      rw [← hP]
      have hb5 : Below w4.heap.size w4 W5 := by rw [← hW5]; exact (Below.refl _ _).alloc (Nat.le_refl _) _
      have HP5 : Hid (PtAt W5 P q) := Lib.hid (by rw [← hW5, hP]; exact ⟨cell_new _ _ _ _ _ rfl, cell_new _ _ _ _ _ rfl, cell_new _ _ _ _ _ rfl, frozen_new _ _ _ _ _ rfl⟩)
      have HX5 := Lib.hid (HX4.out.below hb5)
      have HOB5 := Lib.hid (HOB.out.below hb5)
      have HB5 : Hid (Below w.heap.size w W5) := Lib.hid (HB4.out.trans (hb5.mono HB4.out.size))
      have HPN := Lib.hid (show X ≠ c ∧ P ≠ c ∧ w.heap.size ≤ c ∧ X ≠ P ∧ w.heap.size ≤ P ∧ P ≠ mb ∧ P ≠ pb ∧ P ≠ s by
        have h1 := HOB.out.cl
        have h2 := HXN.out
        have h3 := HB4.out.size
        have h4 := HOB.out.sl
        have h5 := lt_of_cell HOB.out.c1
        have h6 : pb < w4.heap.size := (Array.getElem?_eq_some_iff.1 HOB.out.hb).1
        omega)
      have HS8 := Lib.hid (show 1 ≤ sz ∧ sz ≤ 8 by rcases HSZ.out with h | h | h | h <;> omega)
      clear hW5 hb5 HOB HX4 HB4 HXN hP
      have S0 := Lib.hid (HOB5.out.stN q sz HSZ.out (by have := HS8.out; omega) sg n)
      obtain ⟨t0, t1, t2, t3, t4, t5, t6, t7, t8, f3⟩ := HX5.out
      obtain ⟨p0, p1, p2, f2⟩ := HP5.out
      go_wp2_with fail
      (with_reducible refine S0.out.mono ?_)
      rintro e w6 ⟨rfl, ht6, ho6⟩
      clear t0 t1 t2 t3 t4 t5 t6 t7 t8 f3 p0 p1 p2 f2 S0
      have HX6 := Lib.hid (HX5.out.turn ht6 HPN.out.1)
      have HP6 := Lib.hid (HP5.out.turn ht6 HPN.out.2.1)
      have HB6 : Hid (Below w.heap.size w w6) := Lib.hid (HB5.out.trans (ht6.below HPN.out.2.2.1 HB5.out.size))
      have HOB6 := Lib.hid ho6
      clear ho6 ht6 HX5 HP5 HB5 HOB5
      have L0 := Lib.hid (Ob.ldN q sz HSZ.out HOB6.out (by have := HS8.out; omega) sg)
      obtain ⟨t0, t1, t2, t3, t4, t5, t6, t7, t8, f3⟩ := HX6.out
      obtain ⟨p0, p1, p2, f2⟩ := HP6.out
      obtain ⟨vv, hvv⟩ : ∃ vv, vv = valOf sg sz (n % 256 ^ sz) := ⟨_, rfl⟩
      rw [← hvv] at L0
      have HVV := Lib.hid hvv
      clear hvv
      go_wp2_with fail
      (with_reducible refine L0.out.mono ?_)
      rintro e w7 ⟨rfl, hb7⟩
      clear t0 t1 t2 t3 t4 t5 t6 t7 t8 f3 p0 p1 p2 f2 L0
      go_upto_region 17 with fail
      generalize hW7 : w7.alloc (.cells #[.int .i64 vv, .int .i64 0, .int .i64 0, .int .i64 0, .bool false] 74) = W7
      obtain ⟨V, hV⟩ : ∃ V, V = w7.heap.size := ⟨_, rfl⟩
      rw [← hV]
      have hb67 : Below w6.heap.size w6 W7 := by rw [← hW7]; exact hb7.alloc hb7.size _
      have HX7 := Lib.hid (HX6.out.below hb67)
      have HP7 := Lib.hid (HP6.out.below hb67)
      have HOB7 := Lib.hid (HOB6.out.below hb67)
      have HB7 : Hid (Below w.heap.size w W7) := Lib.hid (HB6.out.trans (hb67.mono HB6.out.size))
      have HV7 : Hid (W7.cell? ⟨V, 0, none⟩ = some (.int .i64 vv)) := Lib.hid (by rw [← hW7, hV]; exact cell_new _ _ _ _ _ rfl)
      have HVN := Lib.hid (show V ≠ P ∧ w.heap.size ≤ V by
        have h1 := lt_of_cell HP6.out.p0
        have h2 := hb7.size
        have h3 := HB6.out.size
        omega)
      clear hW7 hV hb7 hb67 HX6 HP6 HOB6 HB6
      obtain ⟨t0, t1, t2, t3, t4, t5, t6, t7, t8, f3⟩ := HX7.out
      go_upto_if 74 with fail
      have hk1 : wrap64 (64 - wrap64 (8 * (sz : Int))) = 64 - 8 * sz := by
        have := HS8.out
        unfold wrap64
        omega
      rw [hk1]
      clear hk1
      go_cut [16] (fun s16 wx => wx = W7 ∧ s16 = .int .i64 vv)
      case first =>
        rcases HSZ.out with rfl | rfl | rfl | rfl
        all_goals cases sg
        all_goals go_wp2_with fail
        all_goals go_meet
        all_goals refine ⟨rfl, ?_⟩
        · exact congrArg _ ((w1u n).trans HVV.out.symm)
        · exact congrArg _ ((w1s n).trans HVV.out.symm)
        · exact congrArg _ ((w2u n).trans HVV.out.symm)
        · exact congrArg _ ((w2s n).trans HVV.out.symm)
        · exact congrArg _ ((w4u n).trans HVV.out.symm)
        · exact congrArg _ ((w4s n).trans HVV.out.symm)
        · exact congrArg _ ((w8u n HNN.out.1 HNN.out.2).trans HVV.out.symm)
        · exact congrArg _ ((w8s n HNN.out.1 HNN.out.2).trans HVV.out.symm)
      case rest =>
        obtain ⟨rfl, rfl⟩ := hcut
        go_wp2_with fail
        (with_reducible refine (intOf_any 1 false _).mono ?_)
        rintro e w8 ⟨rfl, hb8⟩
        clear t0 t1 t2 t3 t4 t5 t6 t7 t8 f3
        have HX8 := Lib.hid (HX7.out.below hb8)
        have HP8 := Lib.hid (HP7.out.below hb8)
        have HOB8 := Lib.hid (HOB7.out.below hb8)
        have HB8 : Hid (Below w.heap.size w w8) := Lib.hid (HB7.out.trans (hb8.mono HB7.out.size))
        have HV8 : Hid (w8.cell? ⟨V, 0, none⟩ = some (.int .i64 vv)) := Lib.hid (by rw [hb8.cell (by exact lt_of_cell HV7.out)]; exact HV7.out)
        have HLT8 := Lib.hid (show X < w8.heap.size ∧ P < w8.heap.size ∧ V < w8.heap.size ∧ mb < w8.heap.size ∧ pb < w8.heap.size ∧ s < w8.heap.size ∧ c < w8.heap.size ∧ w.heap.size ≤ w8.heap.size from
          ⟨HX8.out.lt, lt_of_cell HP8.out.p0, lt_of_cell HV8.out, lt_of_cell HOB8.out.c1, (Array.getElem?_eq_some_iff.1 HOB8.out.hb).1, HOB8.out.sl, HOB8.out.cl, HB8.out.size⟩)
        clear hb8 HX7 HP7 HOB7 HB7 HV7
        obtain ⟨t0, t1, t2, t3, t4, t5, t6, t7, t8, f3⟩ := HX8.out
        have hx8 : X < w8.heap.size := HLT8.out.1
        have hx9 : X ≠ w8.heap.size := by omega
        go_wp2_with fail
        generalize hW9 : w8.alloc (.cells #[.int .i64 1, .int .i64 1, .bool false, .bool sc, .pointer none, .int .i64 0, .int .i64 0, .slice none 0 0, .pointer none] 57) = W9
        obtain ⟨Y, hY⟩ : ∃ Y, Y = w8.heap.size := ⟨_, rfl⟩
        rw [← hY]
        have hb9 : Below w8.heap.size w8 W9 := by rw [← hW9]; exact (Below.refl _ _).alloc (Nat.le_refl _) _
        have HX9 := Lib.hid (HX8.out.below hb9)
        have HP9 := Lib.hid (HP8.out.below hb9)
        have HOB9 := Lib.hid (HOB8.out.below hb9)
        have HB9 : Hid (Below w.heap.size w W9) := Lib.hid (HB8.out.trans (hb9.mono HB8.out.size))
        have HV9 : Hid (W9.cell? ⟨V, 0, none⟩ = some (.int .i64 vv)) := Lib.hid (by rw [hb9.cell (by exact lt_of_cell HV8.out)]; exact HV8.out)
        have HY9 : Hid (TyAt W9 Y 1 false sc) := Lib.hid (by rw [← hW9, hY]; exact tyAt_new _ _ _ _)
        have HYN := Lib.hid (show Y ≠ X ∧ Y ≠ P ∧ Y ≠ V ∧ Y ≠ mb ∧ Y ≠ pb ∧ Y ≠ s ∧ Y ≠ c ∧ w.heap.size ≤ Y by
          have := HLT8.out
          omega)
        clear hW9 hY hb9 HX8 HP8 HOB8 HB8 HV8 HLT8 hx8 hx9 t0 t1 t2 t3 t4 t5 t6 t7 t8 f3
        go_loopw [96] (fun s96 wr => ∃ i : Nat, s96 = .int .i64 i ∧ i ≤ sz ∧ Hid (∃ q', PtAt wr P q') ∧ Hid (Turn P W9 wr)) (fun s96 _ => sz - (intOf s96).toNat)
        case atStart => exact ⟨0, rfl, by omega, Lib.hid ⟨_, HP9.out⟩, Lib.hid (Turn.refl _ _)⟩
        case round =>
          obtain ⟨i, rfl, hi, HQ, HT⟩ := hrel
          have HXR := Lib.hid (HX9.out.turn HT.out HPN.out.2.2.2.1)
          have HYR := Lib.hid (HY9.out.turn HT.out HYN.out.2.1)
          have HOR := Lib.hid (HOB9.out.turn HT.out HPN.out.2.2.2.2.2.1 HPN.out.2.2.2.2.2.2.1 HPN.out.2.2.2.2.2.2.2 HPN.out.2.1)
          have HVR : Hid (wr.cell? ⟨V, 0, none⟩ = some (.int .i64 vv)) := Lib.hid (by rw [HT.out.cell (by exact lt_of_cell HV9.out) (by exact HVN.out.1)]; exact HV9.out)
          have HBR : Hid (Below w.heap.size w wr) := Lib.hid (HB9.out.trans (HT.out.below HPN.out.2.2.2.2.1 HB9.out.size))
          obtain ⟨q', hp'⟩ := HQ.out
          have p2 := hp'.p2
          have f2 := hp'.f2
          have HPR := Lib.hid hp'
          clear hp' HQ
          have hw0 : ∀ j : Nat, j ≤ 8 → wrap64 ((q : Int) + (j : Int)) = ((q + j : Nat) : Int) := fun j hj => by unfold wrap64; omega
          have HW0 := Lib.hid hw0
          have hset : ∀ x : Int, PtAt (wr.setCell ⟨P, 2, none⟩ (.int .i64 x)) P x := fun x => ⟨by rw [World.cell?_setCell_other _ _ _ _ (by simp)]; exact HPR.out.p0, by rw [World.cell?_setCell_other _ _ _ _ (by simp)]; exact HPR.out.p1, World.cell?_setCell_same _ _ _ p2, by rw [World.frozen?_setCell]; exact f2⟩
          have HSET := Lib.hid hset
          clear hset hw0
          have hPl : P < wr.heap.size := lt_of_cell p2
          by_cases hlt : i < sz
          · have hlt2 : (i : Int) < sz := by omega
            go_upto_region 29 with fail
            obtain ⟨qi, hqi⟩ : ∃ qi : Nat, qi = q + i := ⟨_, rfl⟩
            rw [HW0.out i (by have := HS8.out; omega), ← hqi]
            generalize hWa : wr.setCell ⟨P, 2, none⟩ (.int .i64 (qi : Int)) = Wa
            have hta : Turn P wr Wa := by rw [← hWa]; exact Turn.set ⟨P, 2, none⟩ rfl _
            have HPa : Hid (PtAt Wa P (qi : Int)) := Lib.hid (by rw [← hWa]; exact HSET.out _)
            have HYa := Lib.hid (HYR.out.turn hta HYN.out.2.1)
            have HOa := Lib.hid (HOR.out.turn hta HPN.out.2.2.2.2.2.1 HPN.out.2.2.2.2.2.2.1 HPN.out.2.2.2.2.2.2.2 HPN.out.2.1)
            have HTa := Lib.hid (HT.out.trans hta)
            have hl := Ob.ldB q sz i hlt HOa.out (by have := HS8.out; omega)
            rw [← hqi] at hl
            have L := Lib.hid hl
            clear hl hqi hWa hta HXR HYR HOR HVR HBR HPR HSET HT p2 f2 hPl hlt2
            obtain ⟨y0, y1, y2, y3, y4, y5, y6, y7, y8, g3⟩ := HYa.out
            obtain ⟨p0, p1, p2, f2⟩ := HPa.out
            go_wp2_with fail
            (with_reducible refine L.out.mono ?_)
            rintro e wb ⟨rfl, hbb⟩
            clear y0 y1 y2 y3 y4 y5 y6 y7 y8 g3 p0 p1 p2 f2 L
            obtain ⟨bv, hbv⟩ : ∃ bv, bv = byteOf n i := ⟨_, rfl⟩
            rw [← hbv]
            have HBV := Lib.hid hbv
            clear hbv
            go_upto_region 30 with fail
            generalize hWc : wb.alloc (.cells #[.int .i64 bv, .int .i64 0, .int .i64 0, .int .i64 0, .bool false] 74) = Wc
            have v0 : Wc.cell? ⟨wb.heap.size, 0, none⟩ = some (.int .i64 bv) := by rw [← hWc]; exact cell_new _ _ _ _ _ rfl
            have hbc : Below Wa.heap.size Wa Wc := by rw [← hWc]; exact hbb.alloc hbb.size _
            have HPc := Lib.hid (HPa.out.below hbc)
            have HTc : Hid (Turn P W9 Wc) := Lib.hid (HTa.out.trans (Turn.of hbc (lt_of_cell HPa.out.p0)))
            have HPd : Hid (∃ q', PtAt Wc.drew P q') := Lib.hid ⟨_, HPc.out.p0, HPc.out.p1, HPc.out.p2, HPc.out.f2⟩
            have HTd := Lib.hid (HTc.out.drew)
            clear hWc hbc hbb HPa HYa HOa HTa
            have hi8 : i < 8 := by have := HS8.out; omega
            have hi8 : i < 8 := by have := HS8.out; omega
            obtain ⟨Y0, hY0⟩ : ∃ Y0, Y0 = wb.heap.size := ⟨_, rfl⟩
            rw [← hY0] at v0
            rw [← hY0]
            have HY0 := Lib.hid hY0
            clear hY0
            rcases (show i = 0 ∨ i = 1 ∨ i = 2 ∨ i = 3 ∨ i = 4 ∨ i = 5 ∨ i = 6 ∨ i = 7 by omega) with rfl | rfl | rfl | rfl | rfl | rfl | rfl | rfl
            · have hsh := sh0 n
              have hq9 : bits .and .i64 n 255 = bv := by rw [i64_and255, HBV.out]; unfold byteOf; simp
              refine wp_region_held_drew (S := (fun w' => w'.cell? ⟨Y0, 0, none⟩ = some (.int .i64 bv))) (by kernel_rfl) (by exact v0) (fun hHeld => ?_)
              refine takeD (i := 0) (d := 110) (v := ?_) rfl rfl (by kernel_rfl) (by kernel_rfl) (by kernel_rfl) (fun _ _ _ h => h) (Or.inl ⟨by rfl, ?_⟩) (by assumption) ?_
              rotate_left
              · intro w hSw
                (try dsimp only at hSw)
                go_simp
                (try with_reducible rfl)
              (try simp only [Act.put, List.setIfInBounds_toArray, List.set_cons_zero, List.set_cons_succ])
              refine takeD (i := 1) (d := 111) (v := ?_) rfl rfl (by kernel_rfl) (by kernel_rfl) (by kernel_rfl) (fun _ _ _ h => h) (Or.inl ⟨by rfl, ?_⟩) (by assumption) ?_
              rotate_left
              · intro w hSw
                (try dsimp only at hSw)
                go_simp
                (try with_reducible rfl)
              (try simp only [Act.put, List.setIfInBounds_toArray, List.set_cons_zero, List.set_cons_succ])
              refine takeD (i := 2) (d := 112) (v := ?_) rfl rfl (by kernel_rfl) (by kernel_rfl) (by kernel_rfl) (fun _ _ _ h => h) (Or.inl ⟨by rfl, ?_⟩) (by assumption) ?_
              rotate_left
              · intro w hSw
                (try dsimp only at hSw)
                go_simp
                (try with_reducible rfl)
              (try simp only [Act.put, List.setIfInBounds_toArray, List.set_cons_zero, List.set_cons_succ])
              refine takeD (i := 3) (d := 113) (v := ?_) rfl rfl (by kernel_rfl) (by kernel_rfl) (by kernel_rfl) (fun _ _ _ h => h) (Or.inl ⟨by rfl, ?_⟩) (by assumption) ?_
              rotate_left
              · intro w hSw
                (try dsimp only at hSw)
                go_simp
                (try with_reducible rfl)
              (try simp only [Act.put, List.setIfInBounds_toArray, List.set_cons_zero, List.set_cons_succ])
              refine takeD (i := 4) (d := 114) (v := ?_) rfl rfl (by kernel_rfl) (by kernel_rfl) (by kernel_rfl) (fun _ _ _ h => h) (Or.inl ⟨by rfl, ?_⟩) (by assumption) ?_
              rotate_left
              · intro w hSw
                (try dsimp only at hSw)
                go_simp
                (try with_reducible rfl)
              (try simp only [Act.put, List.setIfInBounds_toArray, List.set_cons_zero, List.set_cons_succ])
              refine takeD (i := 5) (d := 115) (v := ?_) rfl rfl (by kernel_rfl) (by kernel_rfl) (by kernel_rfl) (fun _ _ _ h => h) (Or.inl ⟨by rfl, ?_⟩) (by assumption) ?_
              rotate_left
              · intro w hSw
                (try dsimp only at hSw)
                go_simp
                (try with_reducible rfl)
              (try simp only [Act.put, List.setIfInBounds_toArray, List.set_cons_zero, List.set_cons_succ])
              refine takeD (i := 6) (d := 116) (v := ?_) rfl rfl (by kernel_rfl) (by kernel_rfl) (by kernel_rfl) (fun _ _ _ h => h) (Or.inl ⟨by rfl, ?_⟩) (by assumption) ?_
              rotate_left
              · intro w hSw
                (try dsimp only at hSw)
                go_simp
                (try with_reducible rfl)
              (try simp only [Act.put, List.setIfInBounds_toArray, List.set_cons_zero, List.set_cons_succ])
              refine takeD (i := 7) (d := 117) (v := ?_) rfl rfl (by kernel_rfl) (by kernel_rfl) (by kernel_rfl) (fun _ _ _ h => h) (Or.inl ⟨by rfl, ?_⟩) (by assumption) ?_
              rotate_left
              · intro w hSw
                (try dsimp only at hSw)
                go_simp
                (try with_reducible rfl)
              (try simp only [Act.put, List.setIfInBounds_toArray, List.set_cons_zero, List.set_cons_succ])
              refine takeD (i := 8) (d := 118) (v := ?_) rfl rfl (by kernel_rfl) (by kernel_rfl) (by kernel_rfl) (fun _ _ _ h => h) (Or.inl ⟨by rfl, ?_⟩) (by assumption) ?_
              rotate_left
              · intro w hSw
                (try dsimp only at hSw)
                go_simp
                (try with_reducible rfl)
              (try simp only [Act.put, List.setIfInBounds_toArray, List.set_cons_zero, List.set_cons_succ])
              refine takeD (i := 9) (d := 119) (v := ?_) rfl rfl (by kernel_rfl) (by kernel_rfl) (by kernel_rfl) (fun _ _ _ h => h) (Or.inl ⟨by rfl, ?_⟩) (by assumption) ?_
              rotate_left
              · intro w hSw
                (try dsimp only at hSw)
                go_simp
                (try with_reducible rfl)
              (try simp only [Act.put, List.setIfInBounds_toArray, List.set_cons_zero, List.set_cons_succ])
              refine takeD (i := 10) (d := 120) (v := ?_) rfl rfl (by kernel_rfl) (by kernel_rfl) (by kernel_rfl) (fun _ _ _ h => h) (Or.inl ⟨by rfl, ?_⟩) (by assumption) ?_
              rotate_left
              · intro w hSw
                (try dsimp only at hSw)
                go_simp
                (try with_reducible rfl)
              (try simp only [Act.put, List.setIfInBounds_toArray, List.set_cons_zero, List.set_cons_succ])
              refine takeD (i := 11) (d := 121) (v := ?_) rfl rfl (by kernel_rfl) (by kernel_rfl) (by kernel_rfl) (fun _ _ _ h => h) (Or.inl ⟨by rfl, ?_⟩) (by assumption) ?_
              rotate_left
              · intro w hSw
                (try dsimp only at hSw)
                go_simp
                (try with_reducible rfl)
              (try simp only [Act.put, List.setIfInBounds_toArray, List.set_cons_zero, List.set_cons_succ])
              refine wpAnyH_done (by kernel_rfl) ?_ _
              clear hHeld
              clear hsh hq9 v0
              go_wp2_with fail
              go_roundw
              case rel => exact ⟨1, by go_num, by omega, HPd, HTd⟩
              case measure => simp [intOf]; omega
            · have hsh := sh8 n
              have hq9 : bits .and .i64 (n / 256) 255 = bv := by rw [i64_and255, HBV.out]; unfold byteOf; simp
              refine wp_region_held_drew (S := (fun w' => w'.cell? ⟨Y0, 0, none⟩ = some (.int .i64 bv))) (by kernel_rfl) (by exact v0) (fun hHeld => ?_)
              refine takeD (i := 0) (d := 110) (v := ?_) rfl rfl (by kernel_rfl) (by kernel_rfl) (by kernel_rfl) (fun _ _ _ h => h) (Or.inl ⟨by rfl, ?_⟩) (by assumption) ?_
              rotate_left
              · intro w hSw
                (try dsimp only at hSw)
                go_simp
                (try with_reducible rfl)
              (try simp only [Act.put, List.setIfInBounds_toArray, List.set_cons_zero, List.set_cons_succ])
              refine takeD (i := 1) (d := 111) (v := ?_) rfl rfl (by kernel_rfl) (by kernel_rfl) (by kernel_rfl) (fun _ _ _ h => h) (Or.inl ⟨by rfl, ?_⟩) (by assumption) ?_
              rotate_left
              · intro w hSw
                (try dsimp only at hSw)
                go_simp
                (try with_reducible rfl)
              (try simp only [Act.put, List.setIfInBounds_toArray, List.set_cons_zero, List.set_cons_succ])
              refine takeD (i := 2) (d := 112) (v := ?_) rfl rfl (by kernel_rfl) (by kernel_rfl) (by kernel_rfl) (fun _ _ _ h => h) (Or.inl ⟨by rfl, ?_⟩) (by assumption) ?_
              rotate_left
              · intro w hSw
                (try dsimp only at hSw)
                go_simp
                (try with_reducible rfl)
              (try simp only [Act.put, List.setIfInBounds_toArray, List.set_cons_zero, List.set_cons_succ])
              refine takeD (i := 3) (d := 113) (v := ?_) rfl rfl (by kernel_rfl) (by kernel_rfl) (by kernel_rfl) (fun _ _ _ h => h) (Or.inl ⟨by rfl, ?_⟩) (by assumption) ?_
              rotate_left
              · intro w hSw
                (try dsimp only at hSw)
                go_simp
                (try with_reducible rfl)
              (try simp only [Act.put, List.setIfInBounds_toArray, List.set_cons_zero, List.set_cons_succ])
              refine takeD (i := 4) (d := 114) (v := ?_) rfl rfl (by kernel_rfl) (by kernel_rfl) (by kernel_rfl) (fun _ _ _ h => h) (Or.inl ⟨by rfl, ?_⟩) (by assumption) ?_
              rotate_left
              · intro w hSw
                (try dsimp only at hSw)
                go_simp
                (try with_reducible rfl)
              (try simp only [Act.put, List.setIfInBounds_toArray, List.set_cons_zero, List.set_cons_succ])
              refine takeD (i := 5) (d := 115) (v := ?_) rfl rfl (by kernel_rfl) (by kernel_rfl) (by kernel_rfl) (fun _ _ _ h => h) (Or.inl ⟨by rfl, ?_⟩) (by assumption) ?_
              rotate_left
              · intro w hSw
                (try dsimp only at hSw)
                go_simp
                (try with_reducible rfl)
              (try simp only [Act.put, List.setIfInBounds_toArray, List.set_cons_zero, List.set_cons_succ])
              refine takeD (i := 6) (d := 116) (v := ?_) rfl rfl (by kernel_rfl) (by kernel_rfl) (by kernel_rfl) (fun _ _ _ h => h) (Or.inl ⟨by rfl, ?_⟩) (by assumption) ?_
              rotate_left
              · intro w hSw
                (try dsimp only at hSw)
                go_simp
                (try with_reducible rfl)
              (try simp only [Act.put, List.setIfInBounds_toArray, List.set_cons_zero, List.set_cons_succ])
              refine takeD (i := 7) (d := 117) (v := ?_) rfl rfl (by kernel_rfl) (by kernel_rfl) (by kernel_rfl) (fun _ _ _ h => h) (Or.inl ⟨by rfl, ?_⟩) (by assumption) ?_
              rotate_left
              · intro w hSw
                (try dsimp only at hSw)
                go_simp
                (try with_reducible rfl)
              (try simp only [Act.put, List.setIfInBounds_toArray, List.set_cons_zero, List.set_cons_succ])
              refine takeD (i := 8) (d := 118) (v := ?_) rfl rfl (by kernel_rfl) (by kernel_rfl) (by kernel_rfl) (fun _ _ _ h => h) (Or.inl ⟨by rfl, ?_⟩) (by assumption) ?_
              rotate_left
              · intro w hSw
                (try dsimp only at hSw)
                go_simp
                (try with_reducible rfl)
              (try simp only [Act.put, List.setIfInBounds_toArray, List.set_cons_zero, List.set_cons_succ])
              refine takeD (i := 9) (d := 119) (v := ?_) rfl rfl (by kernel_rfl) (by kernel_rfl) (by kernel_rfl) (fun _ _ _ h => h) (Or.inl ⟨by rfl, ?_⟩) (by assumption) ?_
              rotate_left
              · intro w hSw
                (try dsimp only at hSw)
                go_simp
                (try with_reducible rfl)
              (try simp only [Act.put, List.setIfInBounds_toArray, List.set_cons_zero, List.set_cons_succ])
              refine takeD (i := 10) (d := 120) (v := ?_) rfl rfl (by kernel_rfl) (by kernel_rfl) (by kernel_rfl) (fun _ _ _ h => h) (Or.inl ⟨by rfl, ?_⟩) (by assumption) ?_
              rotate_left
              · intro w hSw
                (try dsimp only at hSw)
                go_simp
                (try with_reducible rfl)
              (try simp only [Act.put, List.setIfInBounds_toArray, List.set_cons_zero, List.set_cons_succ])
              refine takeD (i := 11) (d := 121) (v := ?_) rfl rfl (by kernel_rfl) (by kernel_rfl) (by kernel_rfl) (fun _ _ _ h => h) (Or.inl ⟨by rfl, ?_⟩) (by assumption) ?_
              rotate_left
              · intro w hSw
                (try dsimp only at hSw)
                go_simp
                (try with_reducible rfl)
              (try simp only [Act.put, List.setIfInBounds_toArray, List.set_cons_zero, List.set_cons_succ])
              refine wpAnyH_done (by kernel_rfl) ?_ _
              clear hHeld
              clear hsh hq9 v0
              go_wp2_with fail
              go_roundw
              case rel => exact ⟨2, by go_num, by omega, HPd, HTd⟩
              case measure => simp [intOf]; omega
            · have hsh := sh16 n
              have hq9 : bits .and .i64 (n / 65536) 255 = bv := by rw [i64_and255, HBV.out]; unfold byteOf; simp
              refine wp_region_held_drew (S := (fun w' => w'.cell? ⟨Y0, 0, none⟩ = some (.int .i64 bv))) (by kernel_rfl) (by exact v0) (fun hHeld => ?_)
              refine takeD (i := 0) (d := 110) (v := ?_) rfl rfl (by kernel_rfl) (by kernel_rfl) (by kernel_rfl) (fun _ _ _ h => h) (Or.inl ⟨by rfl, ?_⟩) (by assumption) ?_
              rotate_left
              · intro w hSw
                (try dsimp only at hSw)
                go_simp
                (try with_reducible rfl)
              (try simp only [Act.put, List.setIfInBounds_toArray, List.set_cons_zero, List.set_cons_succ])
              refine takeD (i := 1) (d := 111) (v := ?_) rfl rfl (by kernel_rfl) (by kernel_rfl) (by kernel_rfl) (fun _ _ _ h => h) (Or.inl ⟨by rfl, ?_⟩) (by assumption) ?_
              rotate_left
              · intro w hSw
                (try dsimp only at hSw)
                go_simp
                (try with_reducible rfl)
              (try simp only [Act.put, List.setIfInBounds_toArray, List.set_cons_zero, List.set_cons_succ])
              refine takeD (i := 2) (d := 112) (v := ?_) rfl rfl (by kernel_rfl) (by kernel_rfl) (by kernel_rfl) (fun _ _ _ h => h) (Or.inl ⟨by rfl, ?_⟩) (by assumption) ?_
              rotate_left
              · intro w hSw
                (try dsimp only at hSw)
                go_simp
                (try with_reducible rfl)
              (try simp only [Act.put, List.setIfInBounds_toArray, List.set_cons_zero, List.set_cons_succ])
              refine takeD (i := 3) (d := 113) (v := ?_) rfl rfl (by kernel_rfl) (by kernel_rfl) (by kernel_rfl) (fun _ _ _ h => h) (Or.inl ⟨by rfl, ?_⟩) (by assumption) ?_
              rotate_left
              · intro w hSw
                (try dsimp only at hSw)
                go_simp
                (try with_reducible rfl)
              (try simp only [Act.put, List.setIfInBounds_toArray, List.set_cons_zero, List.set_cons_succ])
              refine takeD (i := 4) (d := 114) (v := ?_) rfl rfl (by kernel_rfl) (by kernel_rfl) (by kernel_rfl) (fun _ _ _ h => h) (Or.inl ⟨by rfl, ?_⟩) (by assumption) ?_
              rotate_left
              · intro w hSw
                (try dsimp only at hSw)
                go_simp
                (try with_reducible rfl)
              (try simp only [Act.put, List.setIfInBounds_toArray, List.set_cons_zero, List.set_cons_succ])
              refine takeD (i := 5) (d := 115) (v := ?_) rfl rfl (by kernel_rfl) (by kernel_rfl) (by kernel_rfl) (fun _ _ _ h => h) (Or.inl ⟨by rfl, ?_⟩) (by assumption) ?_
              rotate_left
              · intro w hSw
                (try dsimp only at hSw)
                go_simp
                (try with_reducible rfl)
              (try simp only [Act.put, List.setIfInBounds_toArray, List.set_cons_zero, List.set_cons_succ])
              refine takeD (i := 6) (d := 116) (v := ?_) rfl rfl (by kernel_rfl) (by kernel_rfl) (by kernel_rfl) (fun _ _ _ h => h) (Or.inl ⟨by rfl, ?_⟩) (by assumption) ?_
              rotate_left
              · intro w hSw
                (try dsimp only at hSw)
                go_simp
                (try with_reducible rfl)
              (try simp only [Act.put, List.setIfInBounds_toArray, List.set_cons_zero, List.set_cons_succ])
              refine takeD (i := 7) (d := 117) (v := ?_) rfl rfl (by kernel_rfl) (by kernel_rfl) (by kernel_rfl) (fun _ _ _ h => h) (Or.inl ⟨by rfl, ?_⟩) (by assumption) ?_
              rotate_left
              · intro w hSw
                (try dsimp only at hSw)
                go_simp
                (try with_reducible rfl)
              (try simp only [Act.put, List.setIfInBounds_toArray, List.set_cons_zero, List.set_cons_succ])
              refine takeD (i := 8) (d := 118) (v := ?_) rfl rfl (by kernel_rfl) (by kernel_rfl) (by kernel_rfl) (fun _ _ _ h => h) (Or.inl ⟨by rfl, ?_⟩) (by assumption) ?_
              rotate_left
              · intro w hSw
                (try dsimp only at hSw)
                go_simp
                (try with_reducible rfl)
              (try simp only [Act.put, List.setIfInBounds_toArray, List.set_cons_zero, List.set_cons_succ])
              refine takeD (i := 9) (d := 119) (v := ?_) rfl rfl (by kernel_rfl) (by kernel_rfl) (by kernel_rfl) (fun _ _ _ h => h) (Or.inl ⟨by rfl, ?_⟩) (by assumption) ?_
              rotate_left
              · intro w hSw
                (try dsimp only at hSw)
                go_simp
                (try with_reducible rfl)
              (try simp only [Act.put, List.setIfInBounds_toArray, List.set_cons_zero, List.set_cons_succ])
              refine takeD (i := 10) (d := 120) (v := ?_) rfl rfl (by kernel_rfl) (by kernel_rfl) (by kernel_rfl) (fun _ _ _ h => h) (Or.inl ⟨by rfl, ?_⟩) (by assumption) ?_
              rotate_left
              · intro w hSw
                (try dsimp only at hSw)
                go_simp
                (try with_reducible rfl)
              (try simp only [Act.put, List.setIfInBounds_toArray, List.set_cons_zero, List.set_cons_succ])
              refine takeD (i := 11) (d := 121) (v := ?_) rfl rfl (by kernel_rfl) (by kernel_rfl) (by kernel_rfl) (fun _ _ _ h => h) (Or.inl ⟨by rfl, ?_⟩) (by assumption) ?_
              rotate_left
              · intro w hSw
                (try dsimp only at hSw)
                go_simp
                (try with_reducible rfl)
              (try simp only [Act.put, List.setIfInBounds_toArray, List.set_cons_zero, List.set_cons_succ])
              refine wpAnyH_done (by kernel_rfl) ?_ _
              clear hHeld
              clear hsh hq9 v0
              go_wp2_with fail
              go_roundw
              case rel => exact ⟨3, by go_num, by omega, HPd, HTd⟩
              case measure => simp [intOf]; omega
            · have hsh := sh24 n
              have hq9 : bits .and .i64 (n / 16777216) 255 = bv := by rw [i64_and255, HBV.out]; unfold byteOf; simp
              refine wp_region_held_drew (S := (fun w' => w'.cell? ⟨Y0, 0, none⟩ = some (.int .i64 bv))) (by kernel_rfl) (by exact v0) (fun hHeld => ?_)
              refine takeD (i := 0) (d := 110) (v := ?_) rfl rfl (by kernel_rfl) (by kernel_rfl) (by kernel_rfl) (fun _ _ _ h => h) (Or.inl ⟨by rfl, ?_⟩) (by assumption) ?_
              rotate_left
              · intro w hSw
                (try dsimp only at hSw)
                go_simp
                (try with_reducible rfl)
              (try simp only [Act.put, List.setIfInBounds_toArray, List.set_cons_zero, List.set_cons_succ])
              refine takeD (i := 1) (d := 111) (v := ?_) rfl rfl (by kernel_rfl) (by kernel_rfl) (by kernel_rfl) (fun _ _ _ h => h) (Or.inl ⟨by rfl, ?_⟩) (by assumption) ?_
              rotate_left
              · intro w hSw
                (try dsimp only at hSw)
                go_simp
                (try with_reducible rfl)
              (try simp only [Act.put, List.setIfInBounds_toArray, List.set_cons_zero, List.set_cons_succ])
              refine takeD (i := 2) (d := 112) (v := ?_) rfl rfl (by kernel_rfl) (by kernel_rfl) (by kernel_rfl) (fun _ _ _ h => h) (Or.inl ⟨by rfl, ?_⟩) (by assumption) ?_
              rotate_left
              · intro w hSw
                (try dsimp only at hSw)
                go_simp
                (try with_reducible rfl)
              (try simp only [Act.put, List.setIfInBounds_toArray, List.set_cons_zero, List.set_cons_succ])
              refine takeD (i := 3) (d := 113) (v := ?_) rfl rfl (by kernel_rfl) (by kernel_rfl) (by kernel_rfl) (fun _ _ _ h => h) (Or.inl ⟨by rfl, ?_⟩) (by assumption) ?_
              rotate_left
              · intro w hSw
                (try dsimp only at hSw)
                go_simp
                (try with_reducible rfl)
              (try simp only [Act.put, List.setIfInBounds_toArray, List.set_cons_zero, List.set_cons_succ])
              refine takeD (i := 4) (d := 114) (v := ?_) rfl rfl (by kernel_rfl) (by kernel_rfl) (by kernel_rfl) (fun _ _ _ h => h) (Or.inl ⟨by rfl, ?_⟩) (by assumption) ?_
              rotate_left
              · intro w hSw
                (try dsimp only at hSw)
                go_simp
                (try with_reducible rfl)
              (try simp only [Act.put, List.setIfInBounds_toArray, List.set_cons_zero, List.set_cons_succ])
              refine takeD (i := 5) (d := 115) (v := ?_) rfl rfl (by kernel_rfl) (by kernel_rfl) (by kernel_rfl) (fun _ _ _ h => h) (Or.inl ⟨by rfl, ?_⟩) (by assumption) ?_
              rotate_left
              · intro w hSw
                (try dsimp only at hSw)
                go_simp
                (try with_reducible rfl)
              (try simp only [Act.put, List.setIfInBounds_toArray, List.set_cons_zero, List.set_cons_succ])
              refine takeD (i := 6) (d := 116) (v := ?_) rfl rfl (by kernel_rfl) (by kernel_rfl) (by kernel_rfl) (fun _ _ _ h => h) (Or.inl ⟨by rfl, ?_⟩) (by assumption) ?_
              rotate_left
              · intro w hSw
                (try dsimp only at hSw)
                go_simp
                (try with_reducible rfl)
              (try simp only [Act.put, List.setIfInBounds_toArray, List.set_cons_zero, List.set_cons_succ])
              refine takeD (i := 7) (d := 117) (v := ?_) rfl rfl (by kernel_rfl) (by kernel_rfl) (by kernel_rfl) (fun _ _ _ h => h) (Or.inl ⟨by rfl, ?_⟩) (by assumption) ?_
              rotate_left
              · intro w hSw
                (try dsimp only at hSw)
                go_simp
                (try with_reducible rfl)
              (try simp only [Act.put, List.setIfInBounds_toArray, List.set_cons_zero, List.set_cons_succ])
              refine takeD (i := 8) (d := 118) (v := ?_) rfl rfl (by kernel_rfl) (by kernel_rfl) (by kernel_rfl) (fun _ _ _ h => h) (Or.inl ⟨by rfl, ?_⟩) (by assumption) ?_
              rotate_left
              · intro w hSw
                (try dsimp only at hSw)
                go_simp
                (try with_reducible rfl)
              (try simp only [Act.put, List.setIfInBounds_toArray, List.set_cons_zero, List.set_cons_succ])
              refine takeD (i := 9) (d := 119) (v := ?_) rfl rfl (by kernel_rfl) (by kernel_rfl) (by kernel_rfl) (fun _ _ _ h => h) (Or.inl ⟨by rfl, ?_⟩) (by assumption) ?_
              rotate_left
              · intro w hSw
                (try dsimp only at hSw)
                go_simp
                (try with_reducible rfl)
              (try simp only [Act.put, List.setIfInBounds_toArray, List.set_cons_zero, List.set_cons_succ])
              refine takeD (i := 10) (d := 120) (v := ?_) rfl rfl (by kernel_rfl) (by kernel_rfl) (by kernel_rfl) (fun _ _ _ h => h) (Or.inl ⟨by rfl, ?_⟩) (by assumption) ?_
              rotate_left
              · intro w hSw
                (try dsimp only at hSw)
                go_simp
                (try with_reducible rfl)
              (try simp only [Act.put, List.setIfInBounds_toArray, List.set_cons_zero, List.set_cons_succ])
              refine takeD (i := 11) (d := 121) (v := ?_) rfl rfl (by kernel_rfl) (by kernel_rfl) (by kernel_rfl) (fun _ _ _ h => h) (Or.inl ⟨by rfl, ?_⟩) (by assumption) ?_
              rotate_left
              · intro w hSw
                (try dsimp only at hSw)
                go_simp
                (try with_reducible rfl)
              (try simp only [Act.put, List.setIfInBounds_toArray, List.set_cons_zero, List.set_cons_succ])
              refine wpAnyH_done (by kernel_rfl) ?_ _
              clear hHeld
              clear hsh hq9 v0
              go_wp2_with fail
              go_roundw
              case rel => exact ⟨4, by go_num, by omega, HPd, HTd⟩
              case measure => simp [intOf]; omega
            · have hsh := sh32 n
              have hq9 : bits .and .i64 (n / 4294967296) 255 = bv := by rw [i64_and255, HBV.out]; unfold byteOf; simp
              refine wp_region_held_drew (S := (fun w' => w'.cell? ⟨Y0, 0, none⟩ = some (.int .i64 bv))) (by kernel_rfl) (by exact v0) (fun hHeld => ?_)
              refine takeD (i := 0) (d := 110) (v := ?_) rfl rfl (by kernel_rfl) (by kernel_rfl) (by kernel_rfl) (fun _ _ _ h => h) (Or.inl ⟨by rfl, ?_⟩) (by assumption) ?_
              rotate_left
              · intro w hSw
                (try dsimp only at hSw)
                go_simp
                (try with_reducible rfl)
              (try simp only [Act.put, List.setIfInBounds_toArray, List.set_cons_zero, List.set_cons_succ])
              refine takeD (i := 1) (d := 111) (v := ?_) rfl rfl (by kernel_rfl) (by kernel_rfl) (by kernel_rfl) (fun _ _ _ h => h) (Or.inl ⟨by rfl, ?_⟩) (by assumption) ?_
              rotate_left
              · intro w hSw
                (try dsimp only at hSw)
                go_simp
                (try with_reducible rfl)
              (try simp only [Act.put, List.setIfInBounds_toArray, List.set_cons_zero, List.set_cons_succ])
              refine takeD (i := 2) (d := 112) (v := ?_) rfl rfl (by kernel_rfl) (by kernel_rfl) (by kernel_rfl) (fun _ _ _ h => h) (Or.inl ⟨by rfl, ?_⟩) (by assumption) ?_
              rotate_left
              · intro w hSw
                (try dsimp only at hSw)
                go_simp
                (try with_reducible rfl)
              (try simp only [Act.put, List.setIfInBounds_toArray, List.set_cons_zero, List.set_cons_succ])
              refine takeD (i := 3) (d := 113) (v := ?_) rfl rfl (by kernel_rfl) (by kernel_rfl) (by kernel_rfl) (fun _ _ _ h => h) (Or.inl ⟨by rfl, ?_⟩) (by assumption) ?_
              rotate_left
              · intro w hSw
                (try dsimp only at hSw)
                go_simp
                (try with_reducible rfl)
              (try simp only [Act.put, List.setIfInBounds_toArray, List.set_cons_zero, List.set_cons_succ])
              refine takeD (i := 4) (d := 114) (v := ?_) rfl rfl (by kernel_rfl) (by kernel_rfl) (by kernel_rfl) (fun _ _ _ h => h) (Or.inl ⟨by rfl, ?_⟩) (by assumption) ?_
              rotate_left
              · intro w hSw
                (try dsimp only at hSw)
                go_simp
                (try with_reducible rfl)
              (try simp only [Act.put, List.setIfInBounds_toArray, List.set_cons_zero, List.set_cons_succ])
              refine takeD (i := 5) (d := 115) (v := ?_) rfl rfl (by kernel_rfl) (by kernel_rfl) (by kernel_rfl) (fun _ _ _ h => h) (Or.inl ⟨by rfl, ?_⟩) (by assumption) ?_
              rotate_left
              · intro w hSw
                (try dsimp only at hSw)
                go_simp
                (try with_reducible rfl)
              (try simp only [Act.put, List.setIfInBounds_toArray, List.set_cons_zero, List.set_cons_succ])
              refine takeD (i := 6) (d := 116) (v := ?_) rfl rfl (by kernel_rfl) (by kernel_rfl) (by kernel_rfl) (fun _ _ _ h => h) (Or.inl ⟨by rfl, ?_⟩) (by assumption) ?_
              rotate_left
              · intro w hSw
                (try dsimp only at hSw)
                go_simp
                (try with_reducible rfl)
              (try simp only [Act.put, List.setIfInBounds_toArray, List.set_cons_zero, List.set_cons_succ])
              refine takeD (i := 7) (d := 117) (v := ?_) rfl rfl (by kernel_rfl) (by kernel_rfl) (by kernel_rfl) (fun _ _ _ h => h) (Or.inl ⟨by rfl, ?_⟩) (by assumption) ?_
              rotate_left
              · intro w hSw
                (try dsimp only at hSw)
                go_simp
                (try with_reducible rfl)
              (try simp only [Act.put, List.setIfInBounds_toArray, List.set_cons_zero, List.set_cons_succ])
              refine takeD (i := 8) (d := 118) (v := ?_) rfl rfl (by kernel_rfl) (by kernel_rfl) (by kernel_rfl) (fun _ _ _ h => h) (Or.inl ⟨by rfl, ?_⟩) (by assumption) ?_
              rotate_left
              · intro w hSw
                (try dsimp only at hSw)
                go_simp
                (try with_reducible rfl)
              (try simp only [Act.put, List.setIfInBounds_toArray, List.set_cons_zero, List.set_cons_succ])
              refine takeD (i := 9) (d := 119) (v := ?_) rfl rfl (by kernel_rfl) (by kernel_rfl) (by kernel_rfl) (fun _ _ _ h => h) (Or.inl ⟨by rfl, ?_⟩) (by assumption) ?_
              rotate_left
              · intro w hSw
                (try dsimp only at hSw)
                go_simp
                (try with_reducible rfl)
              (try simp only [Act.put, List.setIfInBounds_toArray, List.set_cons_zero, List.set_cons_succ])
              refine takeD (i := 10) (d := 120) (v := ?_) rfl rfl (by kernel_rfl) (by kernel_rfl) (by kernel_rfl) (fun _ _ _ h => h) (Or.inl ⟨by rfl, ?_⟩) (by assumption) ?_
              rotate_left
              · intro w hSw
                (try dsimp only at hSw)
                go_simp
                (try with_reducible rfl)
              (try simp only [Act.put, List.setIfInBounds_toArray, List.set_cons_zero, List.set_cons_succ])
              refine takeD (i := 11) (d := 121) (v := ?_) rfl rfl (by kernel_rfl) (by kernel_rfl) (by kernel_rfl) (fun _ _ _ h => h) (Or.inl ⟨by rfl, ?_⟩) (by assumption) ?_
              rotate_left
              · intro w hSw
                (try dsimp only at hSw)
                go_simp
                (try with_reducible rfl)
              (try simp only [Act.put, List.setIfInBounds_toArray, List.set_cons_zero, List.set_cons_succ])
              refine wpAnyH_done (by kernel_rfl) ?_ _
              clear hHeld
              clear hsh hq9 v0
              go_wp2_with fail
              go_roundw
              case rel => exact ⟨5, by go_num, by omega, HPd, HTd⟩
              case measure => simp [intOf]; omega
            · have hsh := sh40 n
              have hq9 : bits .and .i64 (n / 1099511627776) 255 = bv := by rw [i64_and255, HBV.out]; unfold byteOf; simp
              refine wp_region_held_drew (S := (fun w' => w'.cell? ⟨Y0, 0, none⟩ = some (.int .i64 bv))) (by kernel_rfl) (by exact v0) (fun hHeld => ?_)
              refine takeD (i := 0) (d := 110) (v := ?_) rfl rfl (by kernel_rfl) (by kernel_rfl) (by kernel_rfl) (fun _ _ _ h => h) (Or.inl ⟨by rfl, ?_⟩) (by assumption) ?_
              rotate_left
              · intro w hSw
                (try dsimp only at hSw)
                go_simp
                (try with_reducible rfl)
              (try simp only [Act.put, List.setIfInBounds_toArray, List.set_cons_zero, List.set_cons_succ])
              refine takeD (i := 1) (d := 111) (v := ?_) rfl rfl (by kernel_rfl) (by kernel_rfl) (by kernel_rfl) (fun _ _ _ h => h) (Or.inl ⟨by rfl, ?_⟩) (by assumption) ?_
              rotate_left
              · intro w hSw
                (try dsimp only at hSw)
                go_simp
                (try with_reducible rfl)
              (try simp only [Act.put, List.setIfInBounds_toArray, List.set_cons_zero, List.set_cons_succ])
              refine takeD (i := 2) (d := 112) (v := ?_) rfl rfl (by kernel_rfl) (by kernel_rfl) (by kernel_rfl) (fun _ _ _ h => h) (Or.inl ⟨by rfl, ?_⟩) (by assumption) ?_
              rotate_left
              · intro w hSw
                (try dsimp only at hSw)
                go_simp
                (try with_reducible rfl)
              (try simp only [Act.put, List.setIfInBounds_toArray, List.set_cons_zero, List.set_cons_succ])
              refine takeD (i := 3) (d := 113) (v := ?_) rfl rfl (by kernel_rfl) (by kernel_rfl) (by kernel_rfl) (fun _ _ _ h => h) (Or.inl ⟨by rfl, ?_⟩) (by assumption) ?_
              rotate_left
              · intro w hSw
                (try dsimp only at hSw)
                go_simp
                (try with_reducible rfl)
              (try simp only [Act.put, List.setIfInBounds_toArray, List.set_cons_zero, List.set_cons_succ])
              refine takeD (i := 4) (d := 114) (v := ?_) rfl rfl (by kernel_rfl) (by kernel_rfl) (by kernel_rfl) (fun _ _ _ h => h) (Or.inl ⟨by rfl, ?_⟩) (by assumption) ?_
              rotate_left
              · intro w hSw
                (try dsimp only at hSw)
                go_simp
                (try with_reducible rfl)
              (try simp only [Act.put, List.setIfInBounds_toArray, List.set_cons_zero, List.set_cons_succ])
              refine takeD (i := 5) (d := 115) (v := ?_) rfl rfl (by kernel_rfl) (by kernel_rfl) (by kernel_rfl) (fun _ _ _ h => h) (Or.inl ⟨by rfl, ?_⟩) (by assumption) ?_
              rotate_left
              · intro w hSw
                (try dsimp only at hSw)
                go_simp
                (try with_reducible rfl)
              (try simp only [Act.put, List.setIfInBounds_toArray, List.set_cons_zero, List.set_cons_succ])
              refine takeD (i := 6) (d := 116) (v := ?_) rfl rfl (by kernel_rfl) (by kernel_rfl) (by kernel_rfl) (fun _ _ _ h => h) (Or.inl ⟨by rfl, ?_⟩) (by assumption) ?_
              rotate_left
              · intro w hSw
                (try dsimp only at hSw)
                go_simp
                (try with_reducible rfl)
              (try simp only [Act.put, List.setIfInBounds_toArray, List.set_cons_zero, List.set_cons_succ])
              refine takeD (i := 7) (d := 117) (v := ?_) rfl rfl (by kernel_rfl) (by kernel_rfl) (by kernel_rfl) (fun _ _ _ h => h) (Or.inl ⟨by rfl, ?_⟩) (by assumption) ?_
              rotate_left
              · intro w hSw
                (try dsimp only at hSw)
                go_simp
                (try with_reducible rfl)
              (try simp only [Act.put, List.setIfInBounds_toArray, List.set_cons_zero, List.set_cons_succ])
              refine takeD (i := 8) (d := 118) (v := ?_) rfl rfl (by kernel_rfl) (by kernel_rfl) (by kernel_rfl) (fun _ _ _ h => h) (Or.inl ⟨by rfl, ?_⟩) (by assumption) ?_
              rotate_left
              · intro w hSw
                (try dsimp only at hSw)
                go_simp
                (try with_reducible rfl)
              (try simp only [Act.put, List.setIfInBounds_toArray, List.set_cons_zero, List.set_cons_succ])
              refine takeD (i := 9) (d := 119) (v := ?_) rfl rfl (by kernel_rfl) (by kernel_rfl) (by kernel_rfl) (fun _ _ _ h => h) (Or.inl ⟨by rfl, ?_⟩) (by assumption) ?_
              rotate_left
              · intro w hSw
                (try dsimp only at hSw)
                go_simp
                (try with_reducible rfl)
              (try simp only [Act.put, List.setIfInBounds_toArray, List.set_cons_zero, List.set_cons_succ])
              refine takeD (i := 10) (d := 120) (v := ?_) rfl rfl (by kernel_rfl) (by kernel_rfl) (by kernel_rfl) (fun _ _ _ h => h) (Or.inl ⟨by rfl, ?_⟩) (by assumption) ?_
              rotate_left
              · intro w hSw
                (try dsimp only at hSw)
                go_simp
                (try with_reducible rfl)
              (try simp only [Act.put, List.setIfInBounds_toArray, List.set_cons_zero, List.set_cons_succ])
              refine takeD (i := 11) (d := 121) (v := ?_) rfl rfl (by kernel_rfl) (by kernel_rfl) (by kernel_rfl) (fun _ _ _ h => h) (Or.inl ⟨by rfl, ?_⟩) (by assumption) ?_
              rotate_left
              · intro w hSw
                (try dsimp only at hSw)
                go_simp
                (try with_reducible rfl)
              (try simp only [Act.put, List.setIfInBounds_toArray, List.set_cons_zero, List.set_cons_succ])
              refine wpAnyH_done (by kernel_rfl) ?_ _
              clear hHeld
              clear hsh hq9 v0
              go_wp2_with fail
              go_roundw
              case rel => exact ⟨6, by go_num, by omega, HPd, HTd⟩
              case measure => simp [intOf]; omega
            · have hsh := sh48 n
              have hq9 : bits .and .i64 (n / 281474976710656) 255 = bv := by rw [i64_and255, HBV.out]; unfold byteOf; simp
              refine wp_region_held_drew (S := (fun w' => w'.cell? ⟨Y0, 0, none⟩ = some (.int .i64 bv))) (by kernel_rfl) (by exact v0) (fun hHeld => ?_)
              refine takeD (i := 0) (d := 110) (v := ?_) rfl rfl (by kernel_rfl) (by kernel_rfl) (by kernel_rfl) (fun _ _ _ h => h) (Or.inl ⟨by rfl, ?_⟩) (by assumption) ?_
              rotate_left
              · intro w hSw
                (try dsimp only at hSw)
                go_simp
                (try with_reducible rfl)
              (try simp only [Act.put, List.setIfInBounds_toArray, List.set_cons_zero, List.set_cons_succ])
              refine takeD (i := 1) (d := 111) (v := ?_) rfl rfl (by kernel_rfl) (by kernel_rfl) (by kernel_rfl) (fun _ _ _ h => h) (Or.inl ⟨by rfl, ?_⟩) (by assumption) ?_
              rotate_left
              · intro w hSw
                (try dsimp only at hSw)
                go_simp
                (try with_reducible rfl)
              (try simp only [Act.put, List.setIfInBounds_toArray, List.set_cons_zero, List.set_cons_succ])
              refine takeD (i := 2) (d := 112) (v := ?_) rfl rfl (by kernel_rfl) (by kernel_rfl) (by kernel_rfl) (fun _ _ _ h => h) (Or.inl ⟨by rfl, ?_⟩) (by assumption) ?_
              rotate_left
              · intro w hSw
                (try dsimp only at hSw)
                go_simp
                (try with_reducible rfl)
              (try simp only [Act.put, List.setIfInBounds_toArray, List.set_cons_zero, List.set_cons_succ])
              refine takeD (i := 3) (d := 113) (v := ?_) rfl rfl (by kernel_rfl) (by kernel_rfl) (by kernel_rfl) (fun _ _ _ h => h) (Or.inl ⟨by rfl, ?_⟩) (by assumption) ?_
              rotate_left
              · intro w hSw
                (try dsimp only at hSw)
                go_simp
                (try with_reducible rfl)
              (try simp only [Act.put, List.setIfInBounds_toArray, List.set_cons_zero, List.set_cons_succ])
              refine takeD (i := 4) (d := 114) (v := ?_) rfl rfl (by kernel_rfl) (by kernel_rfl) (by kernel_rfl) (fun _ _ _ h => h) (Or.inl ⟨by rfl, ?_⟩) (by assumption) ?_
              rotate_left
              · intro w hSw
                (try dsimp only at hSw)
                go_simp
                (try with_reducible rfl)
              (try simp only [Act.put, List.setIfInBounds_toArray, List.set_cons_zero, List.set_cons_succ])
              refine takeD (i := 5) (d := 115) (v := ?_) rfl rfl (by kernel_rfl) (by kernel_rfl) (by kernel_rfl) (fun _ _ _ h => h) (Or.inl ⟨by rfl, ?_⟩) (by assumption) ?_
              rotate_left
              · intro w hSw
                (try dsimp only at hSw)
                go_simp
                (try with_reducible rfl)
              (try simp only [Act.put, List.setIfInBounds_toArray, List.set_cons_zero, List.set_cons_succ])
              refine takeD (i := 6) (d := 116) (v := ?_) rfl rfl (by kernel_rfl) (by kernel_rfl) (by kernel_rfl) (fun _ _ _ h => h) (Or.inl ⟨by rfl, ?_⟩) (by assumption) ?_
              rotate_left
              · intro w hSw
                (try dsimp only at hSw)
                go_simp
                (try with_reducible rfl)
              (try simp only [Act.put, List.setIfInBounds_toArray, List.set_cons_zero, List.set_cons_succ])
              refine takeD (i := 7) (d := 117) (v := ?_) rfl rfl (by kernel_rfl) (by kernel_rfl) (by kernel_rfl) (fun _ _ _ h => h) (Or.inl ⟨by rfl, ?_⟩) (by assumption) ?_
              rotate_left
              · intro w hSw
                (try dsimp only at hSw)
                go_simp
                (try with_reducible rfl)
              (try simp only [Act.put, List.setIfInBounds_toArray, List.set_cons_zero, List.set_cons_succ])
              refine takeD (i := 8) (d := 118) (v := ?_) rfl rfl (by kernel_rfl) (by kernel_rfl) (by kernel_rfl) (fun _ _ _ h => h) (Or.inl ⟨by rfl, ?_⟩) (by assumption) ?_
              rotate_left
              · intro w hSw
                (try dsimp only at hSw)
                go_simp
                (try with_reducible rfl)
              (try simp only [Act.put, List.setIfInBounds_toArray, List.set_cons_zero, List.set_cons_succ])
              refine takeD (i := 9) (d := 119) (v := ?_) rfl rfl (by kernel_rfl) (by kernel_rfl) (by kernel_rfl) (fun _ _ _ h => h) (Or.inl ⟨by rfl, ?_⟩) (by assumption) ?_
              rotate_left
              · intro w hSw
                (try dsimp only at hSw)
                go_simp
                (try with_reducible rfl)
              (try simp only [Act.put, List.setIfInBounds_toArray, List.set_cons_zero, List.set_cons_succ])
              refine takeD (i := 10) (d := 120) (v := ?_) rfl rfl (by kernel_rfl) (by kernel_rfl) (by kernel_rfl) (fun _ _ _ h => h) (Or.inl ⟨by rfl, ?_⟩) (by assumption) ?_
              rotate_left
              · intro w hSw
                (try dsimp only at hSw)
                go_simp
                (try with_reducible rfl)
              (try simp only [Act.put, List.setIfInBounds_toArray, List.set_cons_zero, List.set_cons_succ])
              refine takeD (i := 11) (d := 121) (v := ?_) rfl rfl (by kernel_rfl) (by kernel_rfl) (by kernel_rfl) (fun _ _ _ h => h) (Or.inl ⟨by rfl, ?_⟩) (by assumption) ?_
              rotate_left
              · intro w hSw
                (try dsimp only at hSw)
                go_simp
                (try with_reducible rfl)
              (try simp only [Act.put, List.setIfInBounds_toArray, List.set_cons_zero, List.set_cons_succ])
              refine wpAnyH_done (by kernel_rfl) ?_ _
              clear hHeld
              clear hsh hq9 v0
              go_wp2_with fail
              go_roundw
              case rel => exact ⟨7, by go_num, by omega, HPd, HTd⟩
              case measure => simp [intOf]; omega
            · have hsh := sh56 n
              have hq9 : bits .and .i64 (n / 72057594037927936) 255 = bv := by rw [i64_and255, HBV.out]; unfold byteOf; simp
              refine wp_region_held_drew (S := (fun w' => w'.cell? ⟨Y0, 0, none⟩ = some (.int .i64 bv))) (by kernel_rfl) (by exact v0) (fun hHeld => ?_)
              refine takeD (i := 0) (d := 110) (v := ?_) rfl rfl (by kernel_rfl) (by kernel_rfl) (by kernel_rfl) (fun _ _ _ h => h) (Or.inl ⟨by rfl, ?_⟩) (by assumption) ?_
              rotate_left
              · intro w hSw
                (try dsimp only at hSw)
                go_simp
                (try with_reducible rfl)
              (try simp only [Act.put, List.setIfInBounds_toArray, List.set_cons_zero, List.set_cons_succ])
              refine takeD (i := 1) (d := 111) (v := ?_) rfl rfl (by kernel_rfl) (by kernel_rfl) (by kernel_rfl) (fun _ _ _ h => h) (Or.inl ⟨by rfl, ?_⟩) (by assumption) ?_
              rotate_left
              · intro w hSw
                (try dsimp only at hSw)
                go_simp
                (try with_reducible rfl)
              (try simp only [Act.put, List.setIfInBounds_toArray, List.set_cons_zero, List.set_cons_succ])
              refine takeD (i := 2) (d := 112) (v := ?_) rfl rfl (by kernel_rfl) (by kernel_rfl) (by kernel_rfl) (fun _ _ _ h => h) (Or.inl ⟨by rfl, ?_⟩) (by assumption) ?_
              rotate_left
              · intro w hSw
                (try dsimp only at hSw)
                go_simp
                (try with_reducible rfl)
              (try simp only [Act.put, List.setIfInBounds_toArray, List.set_cons_zero, List.set_cons_succ])
              refine takeD (i := 3) (d := 113) (v := ?_) rfl rfl (by kernel_rfl) (by kernel_rfl) (by kernel_rfl) (fun _ _ _ h => h) (Or.inl ⟨by rfl, ?_⟩) (by assumption) ?_
              rotate_left
              · intro w hSw
                (try dsimp only at hSw)
                go_simp
                (try with_reducible rfl)
              (try simp only [Act.put, List.setIfInBounds_toArray, List.set_cons_zero, List.set_cons_succ])
              refine takeD (i := 4) (d := 114) (v := ?_) rfl rfl (by kernel_rfl) (by kernel_rfl) (by kernel_rfl) (fun _ _ _ h => h) (Or.inl ⟨by rfl, ?_⟩) (by assumption) ?_
              rotate_left
              · intro w hSw
                (try dsimp only at hSw)
                go_simp
                (try with_reducible rfl)
              (try simp only [Act.put, List.setIfInBounds_toArray, List.set_cons_zero, List.set_cons_succ])
              refine takeD (i := 5) (d := 115) (v := ?_) rfl rfl (by kernel_rfl) (by kernel_rfl) (by kernel_rfl) (fun _ _ _ h => h) (Or.inl ⟨by rfl, ?_⟩) (by assumption) ?_
              rotate_left
              · intro w hSw
                (try dsimp only at hSw)
                go_simp
                (try with_reducible rfl)
              (try simp only [Act.put, List.setIfInBounds_toArray, List.set_cons_zero, List.set_cons_succ])
              refine takeD (i := 6) (d := 116) (v := ?_) rfl rfl (by kernel_rfl) (by kernel_rfl) (by kernel_rfl) (fun _ _ _ h => h) (Or.inl ⟨by rfl, ?_⟩) (by assumption) ?_
              rotate_left
              · intro w hSw
                (try dsimp only at hSw)
                go_simp
                (try with_reducible rfl)
              (try simp only [Act.put, List.setIfInBounds_toArray, List.set_cons_zero, List.set_cons_succ])
              refine takeD (i := 7) (d := 117) (v := ?_) rfl rfl (by kernel_rfl) (by kernel_rfl) (by kernel_rfl) (fun _ _ _ h => h) (Or.inl ⟨by rfl, ?_⟩) (by assumption) ?_
              rotate_left
              · intro w hSw
                (try dsimp only at hSw)
                go_simp
                (try with_reducible rfl)
              (try simp only [Act.put, List.setIfInBounds_toArray, List.set_cons_zero, List.set_cons_succ])
              refine takeD (i := 8) (d := 118) (v := ?_) rfl rfl (by kernel_rfl) (by kernel_rfl) (by kernel_rfl) (fun _ _ _ h => h) (Or.inl ⟨by rfl, ?_⟩) (by assumption) ?_
              rotate_left
              · intro w hSw
                (try dsimp only at hSw)
                go_simp
                (try with_reducible rfl)
              (try simp only [Act.put, List.setIfInBounds_toArray, List.set_cons_zero, List.set_cons_succ])
              refine takeD (i := 9) (d := 119) (v := ?_) rfl rfl (by kernel_rfl) (by kernel_rfl) (by kernel_rfl) (fun _ _ _ h => h) (Or.inl ⟨by rfl, ?_⟩) (by assumption) ?_
              rotate_left
              · intro w hSw
                (try dsimp only at hSw)
                go_simp
                (try with_reducible rfl)
              (try simp only [Act.put, List.setIfInBounds_toArray, List.set_cons_zero, List.set_cons_succ])
              refine takeD (i := 10) (d := 120) (v := ?_) rfl rfl (by kernel_rfl) (by kernel_rfl) (by kernel_rfl) (fun _ _ _ h => h) (Or.inl ⟨by rfl, ?_⟩) (by assumption) ?_
              rotate_left
              · intro w hSw
                (try dsimp only at hSw)
                go_simp
                (try with_reducible rfl)
              (try simp only [Act.put, List.setIfInBounds_toArray, List.set_cons_zero, List.set_cons_succ])
              refine takeD (i := 11) (d := 121) (v := ?_) rfl rfl (by kernel_rfl) (by kernel_rfl) (by kernel_rfl) (fun _ _ _ h => h) (Or.inl ⟨by rfl, ?_⟩) (by assumption) ?_
              rotate_left
              · intro w hSw
                (try dsimp only at hSw)
                go_simp
                (try with_reducible rfl)
              (try simp only [Act.put, List.setIfInBounds_toArray, List.set_cons_zero, List.set_cons_succ])
              refine wpAnyH_done (by kernel_rfl) ?_ _
              clear hHeld
              clear hsh hq9 v0
              go_wp2_with fail
              go_roundw
              case rel => exact ⟨8, by go_num, by omega, HPd, HTd⟩
              case measure => simp [intOf]; omega
          · obtain rfl : sz = i := by omega
            obtain ⟨t0, t1, t2, t3, t4, t5, t6, t7, t8, f3⟩ := HXR.out
            go_upto_region 34 with fail
            obtain ⟨qe, hqe⟩ : ∃ qe : Nat, qe = q + sz := ⟨_, rfl⟩
            rw [HW0.out sz (by have := HS8.out; omega), ← hqe]
            generalize hWa : wr.setCell ⟨P, 2, none⟩ (.int .i64 (qe : Int)) = Wa
            have hta : Turn P wr Wa := by rw [← hWa]; exact Turn.set ⟨P, 2, none⟩ rfl _
            have HPa : Hid (PtAt Wa P (qe : Int)) := Lib.hid (by rw [← hWa]; exact HSET.out _)
            have HYa := Lib.hid (HYR.out.turn hta HYN.out.2.1)
            have HXa := Lib.hid (HXR.out.turn hta HPN.out.2.2.2.1)
            have HOa := Lib.hid (HOR.out.turn hta HPN.out.2.2.2.2.2.1 HPN.out.2.2.2.2.2.2.1 HPN.out.2.2.2.2.2.2.2 HPN.out.2.1)
            have HVa : Hid (Wa.cell? ⟨V, 0, none⟩ = some (.int .i64 vv)) := Lib.hid (by rw [hta.cell (by exact lt_of_cell HVR.out) (by exact HVN.out.1)]; exact HVR.out)
            have HBa : Hid (Below w.heap.size w Wa) := Lib.hid (HBR.out.trans (hta.below HPN.out.2.2.2.2.1 HBR.out.size))
            have hl := HOa.out.ldE qe (by have := HS8.out; omega) (by rw [hqe]; unfold putC; rw [if_neg (by omega)]; simp)
            have L := Lib.hid hl
            clear hl hqe hWa hta HXR HYR HOR HVR HBR HPR HSET HT p2 f2 hPl t0 t1 t2 t3 t4 t5 t6 t7 t8 f3
            obtain ⟨y0, y1, y2, y3, y4, y5, y6, y7, y8, g3⟩ := HYa.out
            obtain ⟨p0, p1, p2, f2⟩ := HPa.out
            go_wp2_with fail
            (with_reducible refine L.out.mono ?_)
            rintro e wb ⟨rfl, hbb⟩
            clear y0 y1 y2 y3 y4 y5 y6 y7 y8 g3 p0 p1 p2 f2 L
            go_upto_region 35 with fail
            generalize hWc : wb.alloc (.cells #[.int .i64 0, .int .i64 0, .int .i64 0, .int .i64 0, .bool false] 74) = Wc
            have hbc : Below Wa.heap.size Wa Wc := by rw [← hWc]; exact hbb.alloc hbb.size _
            have HPc := Lib.hid (HPa.out.below hbc)
            have HYc := Lib.hid (HYa.out.below hbc)
            have HXc := Lib.hid (HXa.out.below hbc)
            have HOc := Lib.hid (HOa.out.below hbc)
            have HVc : Hid (Wc.cell? ⟨V, 0, none⟩ = some (.int .i64 vv)) := Lib.hid (by rw [hbc.cell (by exact lt_of_cell HVa.out)]; exact HVa.out)
            have HBc : Hid (Below w.heap.size w Wc) := Lib.hid (HBa.out.trans (hbc.mono HBa.out.size))
            clear hWc hbc hbb HPa HYa HXa HOa HVa HBa
            obtain ⟨t0, t1, t2, t3, t4, t5, t6, t7, t8, f3⟩ := HXc.out
            obtain ⟨y0, y1, y2, y3, y4, y5, y6, y7, y8, g3⟩ := HYc.out
            go_upto_region 36 with fail
            generalize hWd : Wc.setCell ⟨Y, 3, none⟩ (.bool (!sc)) = Wd
            have htd : Turn Y Wc Wd := by rw [← hWd]; exact Turn.set ⟨Y, 3, none⟩ rfl _
            have HYd : Hid (TyAt Wd Y 1 false (!sc)) := Lib.hid (by rw [← hWd]; exact HYc.out.set _)
            have HPd := Lib.hid (HPc.out.turn htd HYN.out.2.1.symm)
            have HOd := Lib.hid (HOc.out.turn htd HYN.out.2.2.2.1 HYN.out.2.2.2.2.1 HYN.out.2.2.2.2.2.1 HYN.out.2.2.2.2.2.2.1)
            have HVd : Hid (Wd.cell? ⟨V, 0, none⟩ = some (.int .i64 vv)) := Lib.hid (by rw [htd.cell (by exact lt_of_cell HVc.out) (by exact HYN.out.2.2.1.symm)]; exact HVc.out)
            have HBd : Hid (Below w.heap.size w Wd) := Lib.hid (HBc.out.trans (htd.below HYN.out.2.2.2.2.2.2.2 HBc.out.size))
            clear hWd htd HXc HYc HPc HOc HVc HBc t0 t1 t2 t3 t4 t5 t6 t7 t8 f3 y0 y1 y2 y3 y4 y5 y6 y7 y8 g3
            obtain ⟨p0, p1, p2, f2⟩ := HPd.out
            go_upto_region 37 with fail
            generalize hWe : Wd.setCell ⟨P, 2, none⟩ (.int .i64 (q : Int)) = We
            have hte : Turn P Wd We := by rw [← hWe]; exact Turn.set ⟨P, 2, none⟩ rfl _
            have HPe : Hid (PtAt We P (q : Int)) := Lib.hid (by rw [← hWe]; exact HPd.out.set _)
            have HYe := Lib.hid (HYd.out.turn hte HYN.out.2.1)
            have HOe := Lib.hid (HOd.out.turn hte HPN.out.2.2.2.2.2.1 HPN.out.2.2.2.2.2.2.1 HPN.out.2.2.2.2.2.2.2 HPN.out.2.1)
            have HVe : Hid (We.cell? ⟨V, 0, none⟩ = some (.int .i64 vv)) := Lib.hid (by rw [hte.cell (by exact lt_of_cell HVd.out) (by exact HVN.out.1)]; exact HVd.out)
            have HBe : Hid (Below w.heap.size w We) := Lib.hid (HBd.out.trans (hte.below HPN.out.2.2.2.2.1 HBd.out.size))
            have L := Lib.hid (HOe.out.ldO q (by have := HS8.out; omega))
            clear hWe hte HYd HPd HOd HVd HBd p0 p1 p2 f2
            obtain ⟨y0, y1, y2, y3, y4, y5, y6, y7, y8, g3⟩ := HYe.out
            obtain ⟨p0, p1, p2, f2⟩ := HPe.out
            go_wp2_with fail
            (with_reducible refine L.out.mono ?_)
            rintro e wf ⟨rfl, hbf⟩
            clear y0 y1 y2 y3 y4 y5 y6 y7 y8 g3 p0 p1 p2 f2 L
            go_upto_region 38 with fail
            generalize hWf : wf.alloc (.cells #[.int .i64 0, .int .i64 0, .int .i64 0, .int .i64 0, .bool false] 74) = Wf
            have hbg : Below We.heap.size We Wf := by rw [← hWf]; exact hbf.alloc hbf.size _
            have hv : Wf.cell? ⟨V, 0, none⟩ = some (.int .i64 vv) := by rw [hbg.cell (by exact lt_of_cell HVe.out)]; exact HVe.out
            have HEND : Hid (Below w.heap.size w Wf) := Lib.hid (HBe.out.trans (hbg.mono HBe.out.size))
            clear hWf hbg hbf HPe HYe HOe HVe HBe
            go_wp2_with fail
            go_ret
            exact ⟨rfl, HEND.out⟩
end Go.Proofs.Ytdkhanjfncbfnaa
