import Derived.Test.YtdkhanjfncbfnaaOsM
namespace Go.Proofs.Ytdkhanjfncbfnaa
open Go Go.RowKit
set_option linter.unusedVariables false
set_option linter.unusedSimpArgs false

/-- A blank number's block. -/
structure V5 (w : World) (b : Nat) : Prop where
  c0 : w.cell? ⟨b, 0, none⟩ = some (.int .i64 0)
  c1 : w.cell? ⟨b, 1, none⟩ = some (.int .i64 0)
  c2 : w.cell? ⟨b, 2, none⟩ = some (.int .i64 0)
  c3 : w.cell? ⟨b, 3, none⟩ = some (.int .i64 0)
  c4 : w.cell? ⟨b, 4, none⟩ = some (.bool false)
  f0 : w.frozen? ⟨b, 0, none⟩ = false
  f1 : w.frozen? ⟨b, 1, none⟩ = false
  f2 : w.frozen? ⟨b, 2, none⟩ = false
  f3 : w.frozen? ⟨b, 3, none⟩ = false
  f4 : w.frozen? ⟨b, 4, none⟩ = false
theorem V5.below {w w' : World} {b : Nat} (h : V5 w b) (hb : Below w.heap.size w w') : V5 w' b := by
  have hl := World.block_lt_of_cell? w _ h.c0
  simp at hl
  have e := hb.block b hl
  exact ⟨by rw [World.cell?_of_block e]; exact h.c0, by rw [World.cell?_of_block e]; exact h.c1, by rw [World.cell?_of_block e]; exact h.c2, by rw [World.cell?_of_block e]; exact h.c3, by rw [World.cell?_of_block e]; exact h.c4, by rw [World.frozen?_of_block e]; exact h.f0, by rw [World.frozen?_of_block e]; exact h.f1, by rw [World.frozen?_of_block e]; exact h.f2, by rw [World.frozen?_of_block e]; exact h.f3, by rw [World.frozen?_of_block e]; exact h.f4⟩
theorem v5_new (w : World) : V5 (w.alloc (.cells #[.int .i64 0, .int .i64 0, .int .i64 0, .int .i64 0, .bool false] 74)) w.heap.size :=
  ⟨cell_new _ _ _ _ _ rfl, cell_new _ _ _ _ _ rfl, cell_new _ _ _ _ _ rfl, cell_new _ _ _ _ _ rfl, cell_new _ _ _ _ _ rfl, frozen_new _ _ _ _ _ rfl, frozen_new _ _ _ _ _ rfl, frozen_new _ _ _ _ _ rfl, frozen_new _ _ _ _ _ rfl, frozen_new _ _ _ _ _ rfl⟩
theorem V5.drew {w : World} {b : Nat} (h : V5 w b) : V5 w.drew b := ⟨h.c0, h.c1, h.c2, h.c3, h.c4, h.f0, h.f1, h.f2, h.f3, h.f4⟩
theorem new_any (w : World) : Calls Try.prog 10 #[] w fun e w' => e = .returned (.pointer (some ⟨w.heap.size, 0, none⟩)) ∧ w' = w.alloc (.cells #[.int .i64 0, .map none] 91) := by
  go_enter Try.func10, Try.ntmps10
  go_wp2_with fail
  go_ret
  exact ⟨rfl, rfl⟩
theorem intOf_any (n : Int) (sg : Bool) (w : World) : Calls Try.prog 24 #[.int .i64 n, .bool sg] w fun e w' => e = .returned (.agg #[.int .i64 1, .int .i64 n, .bool sg, .bool false, .pointer none, .int .i64 0, .int .i64 0, .slice none 0 0, .pointer none]) ∧ Below w.heap.size w w' := by
  go_enter Try.func24, Try.ntmps24
  go_wp2_with fail
  refine bodyPost_ret (v := .agg #[.int .i64 1, .int .i64 n, .bool sg, .bool false, .pointer none, .int .i64 0, .int .i64 0, .slice none 0 0, .pointer none]) ?_ rfl ⟨rfl, ?_⟩
  · simp [results, Try.results24, go_sem]
  · exact (Below.refl _ _).alloc (Nat.le_refl _) _
theorem Made1.ob {w w' : World} {mb N pb s c : Nat} {L : Nat → Bool} (h : Made1 w w' mb N L pb s c) (hm : mb < w.heap.size) (hN : N ≤ 1000000) : Ob w' mb pb #[{ key := .int .i64 0, val := objV s 0 c 0 N, born := 0 }] 1 0 s c N L (fun _ => ⟨0, 0, 0, 0, 0⟩) :=
  ⟨h.mem.c1, h.mem.hb, ⟨0, rfl⟩, h.labs, h.cells, h.fz, h.s2, h.c2, h.sc, by have := h.c1; omega, h.cp, hN⟩
theorem Made1.below {w w' : World} {mb N pb s c lim : Nat} {L : Nat → Bool} (h : Made1 w w' mb N L pb s c) (hl : lim ≤ mb) (hm : mb < w.heap.size) : Below lim w w' :=
  ⟨h.os, h.tape, h.output, h.size, fun g hg => h.keep g (by omega) (by omega)⟩
theorem labs_new (w w1 : World) (N : Nat) (hw : w1 = w.alloc (.cells (madeCells #[.bool false] N) 4)) : Labs w1 w.heap.size 0 N (fun _ => false) := fun i hi => by
  subst hw
  rw [cell_new _ _ _ _ _ rfl, Nat.zero_add]
  simp [madeCells, hi, Nat.mod_one]

set_option maxRecDepth 100000 in
set_option maxHeartbeats 16000000 in
theorem fit_any (w : World) : Calls Try.prog 9 #[] w (BoolRes true w) := by
  have hm4 : ∀ w : World, (Instr.makeSlice 28 (.int .i64 4) (.int .i64 4)).run Try.prog w = .ok (.slice (some ⟨w.heap.size, 0, none⟩) 4 4) (w.alloc (.cells (madeCells #[.bool false] 4) 4)) := fun w => make_bools 4 (by omega) w
  go_enter Try.func9, Try.ntmps9
  go_wp2_with (go_at_call 10; (with_reducible refine (new_any _).mono ?_); rintro e w' ⟨rfl, rfl⟩)
  generalize hW1 : (w.alloc (.cells #[.int .i64 0, .map none] 91)).alloc (.cells (madeCells #[.bool false] 4) 4) = W1
  have hb1 : Below w.heap.size w W1 := by rw [← hW1]; exact ((Below.refl _ _).alloc (Nat.le_refl _) _).alloc (by simp) _
  have hs1 : W1.heap.size = w.heap.size + 2 := by rw [← hW1]; simp
  have c0 : W1.cell? ⟨w.heap.size, 0, none⟩ = some (.int .i64 0) := by rw [← hW1]; simp
  have c1 : W1.cell? ⟨w.heap.size, 1, none⟩ = some (.map none) := by rw [← hW1]; simp
  have f0 : W1.frozen? ⟨w.heap.size, 0, none⟩ = false := by rw [← hW1]; simp
  have f1 : W1.frozen? ⟨w.heap.size, 1, none⟩ = false := by rw [← hW1]; simp
  have hl : Labs W1 (w.heap.size + 1) 0 4 (fun _ => false) := by
    have := labs_new _ W1 4 hW1.symm
    simpa using this
  clear hW1 hm4
  (with_reducible refine (make_first w.heap.size 4 (by omega) (w.heap.size + 1) 0 4 (fun _ => false) W1 c0 c1 f0 f1 hl (by omega) (by omega)).mono ?_)
  rintro e w2 ⟨rfl, pb, s, c, hmade⟩
  have hob := hmade.ob (by omega) (by omega)
  have hb2 : Below w.heap.size w w2 := hb1.trans (hmade.below (Nat.le_refl _) (by omega))
  have hcw : w.heap.size ≤ c := by have := hmade.c1; omega
  have hz2 := hmade.size
  have HOB := Lib.hid hob
  have HB2A := Lib.hid hb2
  obtain ⟨mb, hmb⟩ : ∃ mb, mb = w.heap.size := ⟨_, rfl⟩
  rw [← hmb] at hob
  have HOBM := Lib.hid hob
  rw [← hmb]
  have HMB := Lib.hid hmb
  have HZ2 := Lib.hid (show w.heap.size < w2.heap.size ∧ c < w2.heap.size from ⟨by omega, hmade.c2⟩)
  have HCW := Lib.hid hcw
  clear hmb hob hb2 hmade c0 c1 f0 f1 hl hb1 hs1 HOB hcw hz2
  go_upto_region 4 with fail
  generalize hW : w2.alloc (.cells #[.int .i64 1, .int .i64 0, .int .i64 0] 38) = W
  have hbW : Below w2.heap.size w2 W := by rw [← hW]; exact (Below.refl _ _).alloc (Nat.le_refl _) _
  obtain ⟨X, hX⟩ : ∃ X, X = w2.heap.size := ⟨_, rfl⟩
  have hsW : W.heap.size = X + 1 := by rw [← hW, hX]; simp
  have x0 : W.cell? ⟨X, 0, none⟩ = some (.int .i64 1) := by rw [← hW, hX]; simp
  have x1 : W.cell? ⟨X, 1, none⟩ = some (.int .i64 0) := by rw [← hW, hX]; simp
  have x2 : W.cell? ⟨X, 2, none⟩ = some (.int .i64 0) := by rw [← hW, hX]; simp
  have hXW : X < W.heap.size := by omega
  have hneW : W.heap.size ≠ X := by omega
  have hXc : X ≠ c := by have := HZ2.out; omega
  have HXC := Lib.hid hXc
  rw [← hX]
  have HOBW := Lib.hid (HOBM.out.below hbW)
  have HBW : Hid (Below w.heap.size w W) := Lib.hid (HB2A.out.trans (hbW.mono (by have := HZ2.out; omega)))
  have HLD : Hid (∀ w', Below W.heap.size W w' → Calls Try.prog 23 #[.pointer (some ⟨mb, 0, none⟩), (.agg #[.int .i64 1, .int .i64 0, .int .i64 0]), (.agg #[.int .i64 1, .int .i64 4, .bool true, .bool false, .pointer none, .int .i64 0, .int .i64 0, .slice none 0 0, .pointer none])] w' fun e w3 => e = .returned (.tuple #[.agg #[.int .i64 0, .int .i64 0, .int .i64 0, .int .i64 0, .bool false], .bool false]) ∧ Below w'.heap.size w' w3) := Lib.hid (fun w' hb => (HOBW.out.below hb).load_none 0 4 (by right; right; left; rfl) (by omega) true false (fun _ _ => rfl) (by simp))
  clear hW hbW hX hsW
  go_cut [5] (fun s5 wx => ∃ W', W' = wx ∧ s5 = .bool false ∧ Below W.heap.size W W')
  case first =>
    go_region_held3 (fun w' => w'.cell? ⟨X, 0, none⟩ = some (.int .i64 1) ∧ w'.cell? ⟨X, 1, none⟩ = some (.int .i64 0) ∧ w'.cell? ⟨X, 2, none⟩ = some (.int .i64 0)) (go_keep)
      (first
        | (go_at_call 23
           (with_reducible refine (HLD.out _ (by first | exact HB1.out | exact HB1.out.alloc HB1.out.size _)).mono ?_)
           rintro e w2 ⟨rfl, hb2⟩
           have HB2 : Hid (Below W.heap.size W w2) := Lib.hid (by first | exact HB1.out.trans (hb2.mono HB1.out.size) | exact (HB1.out.alloc HB1.out.size _).trans (hb2.mono (by have := HB1.out.size; simp; omega)))
           have q0 : w2.cell? ⟨X, 0, none⟩ = some (.int .i64 1) := by rw [HB2.out.cell (by exact hXW)]; exact x0
           have q1 : w2.cell? ⟨X, 1, none⟩ = some (.int .i64 0) := by rw [HB2.out.cell (by exact hXW)]; exact x1
           have q2 : w2.cell? ⟨X, 2, none⟩ = some (.int .i64 0) := by rw [HB2.out.cell (by exact hXW)]; exact x2
           (first | (have V2 : Hid (V5 w2 W.heap.size) := Lib.hid (V1.out.below hb2); obtain ⟨a0, a1, a2, a3, a4, b0, b1, b2, b3, b4⟩ := V2.out) | (have V2 : Hid (V5 w2 w1.heap.size) := Lib.hid ((v5_new w1).below hb2); obtain ⟨a0, a1, a2, a3, a4, b0, b1, b2, b3, b4⟩ := V2.out) | skip)
           have hne1 : w1.heap.size ≠ X := by have := HB1.out.size; omega
           clear hb2)
        | (go_at_call 24
           (with_reducible refine (intOf_any 4 true _).mono ?_)
           rintro e w1 ⟨rfl, hb1⟩
           have HB1 : Hid (Below W.heap.size W w1) := Lib.hid (by first | exact (Below.refl W.heap.size W).drew.trans hb1 | exact ((Below.refl W.heap.size W).alloc (Nat.le_refl _) _).drew.trans (hb1.mono (by simp)))
           have p0 : w1.cell? ⟨X, 0, none⟩ = some (.int .i64 1) := by rw [HB1.out.cell (by exact hXW)]; exact x0
           have p1 : w1.cell? ⟨X, 1, none⟩ = some (.int .i64 0) := by rw [HB1.out.cell (by exact hXW)]; exact x1
           have p2 : w1.cell? ⟨X, 2, none⟩ = some (.int .i64 0) := by rw [HB1.out.cell (by exact hXW)]; exact x2
           (first | (have V1 : Hid (V5 w1 W.heap.size) := Lib.hid ((v5_new W).drew.below hb1)) | skip)
           clear hb1))
    all_goals go_wp2_with fail
    all_goals go_meet
    all_goals
      have hs1 := HB1.out.size
      have hs2 := HB2.out.size
      refine ⟨_, rfl, rfl, ?_⟩
      ((repeat (first | (with_reducible exact HB2.out) | (with_reducible apply Below.setCell) | (with_reducible apply Below.alloc) | (with_reducible apply Below.drew))) <;> first | omega | (simp <;> omega))
  case rest =>
    obtain ⟨W3, rfl, rfl, hb3⟩ := hcut
    have HB3 := Lib.hid hb3
    have HOB3 := Lib.hid (HOBW.out.below hb3)
    have y0 : W3.cell? ⟨X, 0, none⟩ = some (.int .i64 1) := by rw [hb3.cell (by exact hXW)]; exact x0
    have y1 : W3.cell? ⟨X, 1, none⟩ = some (.int .i64 0) := by rw [hb3.cell (by exact hXW)]; exact x1
    have y2 : W3.cell? ⟨X, 2, none⟩ = some (.int .i64 0) := by rw [hb3.cell (by exact hXW)]; exact x2
    have hXW3 := Nat.lt_of_lt_of_le hXW hb3.size
    have HST : Hid (∀ w', Below W3.heap.size W3 w' → Calls Try.prog 22 #[.pointer (some ⟨mb, 0, none⟩), (.agg #[.int .i64 1, .int .i64 0, .int .i64 0]), (.agg #[.int .i64 1, .int .i64 4, .bool true, .bool false, .pointer none, .int .i64 0, .int .i64 0, .slice none 0 0, .pointer none]), .agg #[.int .i64 (-5), .int .i64 0, .int .i64 0, .int .i64 0, .bool false]] w' fun e w4 => e = .returned (.bool true) ∧ Turn c w' w4 ∧ Ob w4 mb pb #[{ key := .int .i64 0, val := objV s 0 c 0 4, born := 0 }] 1 0 s c 4 (fun _ => false) (putC (fun _ => ⟨0, 0, 0, 0, 0⟩) 0 4 (-5))) := Lib.hid (fun w' hb => (HOB3.out.below hb).store 0 4 (by right; right; left; rfl) (by omega) true false (fun _ _ => rfl) (-5) 0 0 0 false)
    have hXc := HXC.out
    clear hb3 x0 x1 x2
    go_upto_region 5 with fail
    go_region_held3 (fun w' => w'.cell? ⟨X, 0, none⟩ = some (.int .i64 1) ∧ w'.cell? ⟨X, 1, none⟩ = some (.int .i64 0) ∧ w'.cell? ⟨X, 2, none⟩ = some (.int .i64 0)) (go_keep)
      (first
        | (go_at_call 22
           (with_reducible refine (HST.out _ (by first | exact HB1.out | exact HB1.out.alloc HB1.out.size _)).mono ?_)
           rintro e w2 ⟨rfl, ht2, hob2⟩
           have HT2 := Lib.hid ht2
           have HOB2 := Lib.hid hob2
           have HTP : Hid (∀ o, w2.cell? ⟨X, o, none⟩ = W3.cell? ⟨X, o, none⟩) := Lib.hid (fun o => by rw [ht2.cell (by show X < _; have := HB1.out.size; omega) (by exact hXc)]; exact HB1.out.cell (by exact hXW3))
           have q0 : w2.cell? ⟨X, 0, none⟩ = some (.int .i64 1) := by rw [HTP.out]; exact y0
           have q1 : w2.cell? ⟨X, 1, none⟩ = some (.int .i64 0) := by rw [HTP.out]; exact y1
           have q2 : w2.cell? ⟨X, 2, none⟩ = some (.int .i64 0) := by rw [HTP.out]; exact y2
           clear ht2 hob2)
        | (go_at_call 24
           (with_reducible refine (intOf_any 4 true _).mono ?_)
           rintro e w1 ⟨rfl, hb1⟩
           have HB1 : Hid (Below W3.heap.size W3 w1) := Lib.hid (by first | exact (Below.refl W3.heap.size W3).drew.trans hb1 | exact ((Below.refl W3.heap.size W3).alloc (Nat.le_refl _) _).drew.trans (hb1.mono (by simp)))
           have p0 : w1.cell? ⟨X, 0, none⟩ = some (.int .i64 1) := by rw [HB1.out.cell (by exact hXW3)]; exact y0
           have p1 : w1.cell? ⟨X, 1, none⟩ = some (.int .i64 0) := by rw [HB1.out.cell (by exact hXW3)]; exact y1
           have p2 : w1.cell? ⟨X, 2, none⟩ = some (.int .i64 0) := by rw [HB1.out.cell (by exact hXW3)]; exact y2
           (first | (have V1 : Hid (V5 w1 W3.heap.size) := Lib.hid ((v5_new W3).drew.below hb1)) | skip)
           clear hb1))
    have hbs : Below w.heap.size w w2 := ((HBW.out.trans (HB3.out.mono HBW.out.size)).trans (HB1.out.mono (by have := HBW.out.size; have := HB3.out.size; omega))).trans (HT2.out.below HCW.out (by have := HBW.out.size; have := HB3.out.size; have := HB1.out.size; omega))
    have hXW4 : X < w2.heap.size := Nat.lt_of_lt_of_le (Nat.lt_of_lt_of_le hXW3 HB1.out.size) HT2.out.size
    obtain ⟨W4, hW4⟩ : ∃ W4, W4 = w2 := ⟨_, rfl⟩
    rw [← hW4] at q0 q1 q2 HOB2 hbs hXW4
    rw [← hW4]
    have HBS := Lib.hid hbs
    have HOB4 := HOB2
    clear hW4 hbs HTP HT2 HOB2 HB1
    go_upto_region 6 with fail
    have hneW4 : W4.heap.size ≠ X := by omega
    have HL2 : Hid (∀ w', Below W4.heap.size W4 w' → Calls Try.prog 23 #[.pointer (some ⟨mb, 0, none⟩), (.agg #[.int .i64 1, .int .i64 0, .int .i64 0]), (.agg #[.int .i64 1, .int .i64 4, .bool true, .bool false, .pointer none, .int .i64 0, .int .i64 0, .slice none 0 0, .pointer none])] w' fun e w5 => e = .returned (.tuple #[.agg #[.int .i64 (-5), .int .i64 0, .int .i64 0, .int .i64 0, .bool false], .bool true]) ∧ Below w'.heap.size w' w5) := Lib.hid (fun w' hb => (HOB4.out.below hb).load 0 4 (by right; right; left; rfl) (by omega) true false (fun _ _ => rfl) (fun i hi => by rw [putC_in _ 0 4 i _ hi]; exact ⟨rfl, byteOf_range _ _⟩))
    go_cut [7, 8] (fun s7 s8 wx => ∃ (W' : World) (V : Nat), W' = wx ∧ s7 = .pointer (some ⟨V, 0, none⟩) ∧ s8 = .bool true ∧ W'.cell? ⟨V, 0, none⟩ = some (.int .i64 (-5)) ∧ Below W4.heap.size W4 W')
    case first =>
      go_region_held3 (fun w' => w'.cell? ⟨X, 0, none⟩ = some (.int .i64 1) ∧ w'.cell? ⟨X, 1, none⟩ = some (.int .i64 0) ∧ w'.cell? ⟨X, 2, none⟩ = some (.int .i64 0)) (go_keep)
        (first
          | (go_at_call 23
             (with_reducible refine (HL2.out _ (by first | exact HB1.out | exact HB1.out.alloc HB1.out.size _)).mono ?_)
             rintro e w2 ⟨rfl, hb2⟩
             have HB2 : Hid (Below W4.heap.size W4 w2) := Lib.hid (by first | exact HB1.out.trans (hb2.mono HB1.out.size) | exact (HB1.out.alloc HB1.out.size _).trans (hb2.mono (by have := HB1.out.size; simp; omega)))
             have q0 : w2.cell? ⟨X, 0, none⟩ = some (.int .i64 1) := by rw [HB2.out.cell (by exact hXW4)]; exact q0
             have q1 : w2.cell? ⟨X, 1, none⟩ = some (.int .i64 0) := by rw [HB2.out.cell (by exact hXW4)]; exact q1
             have q2 : w2.cell? ⟨X, 2, none⟩ = some (.int .i64 0) := by rw [HB2.out.cell (by exact hXW4)]; exact q2
             (first | (have V2 : Hid (V5 w2 W4.heap.size) := Lib.hid (V1.out.below hb2); obtain ⟨a0, a1, a2, a3, a4, b0, b1, b2, b3, b4⟩ := V2.out) | (have V2 : Hid (V5 w2 w1.heap.size) := Lib.hid ((v5_new w1).below hb2); obtain ⟨a0, a1, a2, a3, a4, b0, b1, b2, b3, b4⟩ := V2.out) | skip)
             have hne1 : w1.heap.size ≠ X := by have := HB1.out.size; omega
             clear hb2)
          | (go_at_call 24
             (with_reducible refine (intOf_any 4 true _).mono ?_)
             rintro e w1 ⟨rfl, hb1⟩
             have HB1 : Hid (Below W4.heap.size W4 w1) := Lib.hid (by first | exact (Below.refl W4.heap.size W4).drew.trans hb1 | exact ((Below.refl W4.heap.size W4).alloc (Nat.le_refl _) _).drew.trans (hb1.mono (by simp)))
             have p0 : w1.cell? ⟨X, 0, none⟩ = some (.int .i64 1) := by rw [HB1.out.cell (by exact hXW4)]; exact q0
             have p1 : w1.cell? ⟨X, 1, none⟩ = some (.int .i64 0) := by rw [HB1.out.cell (by exact hXW4)]; exact q1
             have p2 : w1.cell? ⟨X, 2, none⟩ = some (.int .i64 0) := by rw [HB1.out.cell (by exact hXW4)]; exact q2
             (first | (have V1 : Hid (V5 w1 W4.heap.size) := Lib.hid ((v5_new W4).drew.below hb1)) | skip)
             clear hb1))
      all_goals go_wp2_with fail
      all_goals go_meet
      all_goals
        have hs1 := HB1.out.size
        have hs2 := HB2.out.size
        refine ⟨_, _, rfl, rfl, rfl, ?_, ?_⟩
        · first | (rw [World.cell?_setCell_other _ _ _ _ (by simp), World.cell?_setCell_other _ _ _ _ (by simp), World.cell?_setCell_other _ _ _ _ (by simp), World.cell?_setCell_other _ _ _ _ (by simp)]; with_reducible exact World.cell?_setCell_same _ _ _ a0) | (rw [cell_new _ _ _ _ _ rfl]; rfl)
        · ((repeat (first | (with_reducible exact HB2.out) | (with_reducible apply Below.setCell) | (with_reducible apply Below.alloc) | (with_reducible apply Below.drew))) <;> first | omega | (simp <;> omega))
    case rest =>
      obtain ⟨W5, V, rfl, rfl, rfl, hv0, hb5⟩ := hcut
      have HB5 := Lib.hid hb5
      clear hb5
      go_wp2_with fail
      go_ret
      exact ⟨rfl, HBS.out.trans (HB5.out.mono HBS.out.size)⟩
end Go.Proofs.Ytdkhanjfncbfnaa
