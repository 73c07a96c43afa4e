import Derived.Test.YtdkhanjfncbfnaaOsS
namespace Go.Proofs.Ytdkhanjfncbfnaa
open Go Go.RowKit
set_option linter.unusedVariables false
set_option linter.unusedSimpArgs false

/-- Two objects of eight public bytes each. -/
structure Two (W W' : World) (mb pb s c s2 c2 : Nat) : Prop where
  o0 : Ob W' mb pb #[{ key := .int .i64 0, val := objV s 0 c 0 8, born := 0 }, { key := .int .i64 1, val := objV s2 0 c2 0 8, born := 1 }] 2 0 s c 8 (fun _ => false) (fun _ => ⟨0, 0, 0, 0, 0⟩)
  o1 : Ob W' mb pb #[{ key := .int .i64 0, val := objV s 0 c 0 8, born := 0 }, { key := .int .i64 1, val := objV s2 0 c2 0 8, born := 1 }] 2 1 s2 c2 8 (fun _ => false) (fun _ => ⟨0, 0, 0, 0, 0⟩)
  cc : c ≠ c2
  sc : s ≠ c2
  cs : c ≠ s2
  os : W'.os = W.os
  tape : W'.tape = W.tape
  output : W'.output = W.output
  size : W.heap.size ≤ W'.heap.size
  keep : ∀ g, g < W.heap.size → g ≠ mb → W'.heap[g]? = W.heap[g]?
  hc : W.heap.size ≤ c
  hc2 : W.heap.size ≤ c2
  hp : W.heap.size ≤ pb
theorem two_of {W W1 w3 w3' w4 : World} {mb pb s c s2 c2 : Nat} (hmb : mb < W.heap.size) (hb : Below W.heap.size W W1) (h1 : Made1 W1 w3 mb 8 (fun _ => false) pb s c) (hb3 : Below w3.heap.size w3 w3') (h2 : Made w3' w4 mb pb 1 8 #[{ key := .int .i64 0, val := objV s 0 c 0 8, born := 0 }] 1 (fun _ => false) s2 c2) : Two W w4 mb pb s c s2 c2 := by
  have hz := hb.size
  have hz1 := h1.size
  have hz3 := hb3.size
  have p1 := h1.p1
  have s1 := h1.s1
  have cc1 := h1.c1
  have ss2 := h1.s2
  have cc2 := h1.c2
  have q1 := h2.s1
  have q2 := h2.c1
  have hpb3 : pb < w3.heap.size := (Array.getElem?_eq_some_iff.1 h1.mem.hb).1
  have hpm := h1.mem.ne
  have o := (h1.ob (by omega) (by omega)).below hb3
  have ks : w4.heap[s]? = w3'.heap[s]? := h2.keep s (by omega) (by omega) h1.sp
  have kc : w4.heap[c]? = w3'.heap[c]? := h2.keep c (by omega) (by omega) h1.cp
  refine ⟨⟨h2.mem.c1, h2.mem.hb, ⟨0, rfl⟩, fun i hi => by rw [World.cell?_of_block ks]; exact o.labs i hi, fun i hi => ?_, fun j => by rw [World.frozen?_of_block kc]; exact o.fz j, by have := h2.size; omega, by have := h2.size; omega, h1.sc, by omega, h1.cp, by omega⟩,
    ⟨h2.mem.c1, h2.mem.hb, ⟨1, rfl⟩, h2.labs, h2.cells, h2.fz, h2.s2, h2.c2, h2.sc, by omega, by omega, by omega⟩, by omega, by omega, by omega,
    ?_, ?_, ?_, ?_, ?_, by omega, by omega, by omega⟩
  · obtain ⟨e0, e1, e2, e3, e4⟩ := o.cells i hi
    exact ⟨by rw [World.cell?_of_block kc]; exact e0, by rw [World.cell?_of_block kc]; exact e1, by rw [World.cell?_of_block kc]; exact e2, by rw [World.cell?_of_block kc]; exact e3, by rw [World.cell?_of_block kc]; exact e4⟩
  · exact h2.os.trans (hb3.os.trans (h1.os.trans hb.os))
  · exact h2.tape.trans (hb3.tape.trans (h1.tape.trans hb.tape))
  · exact h2.output.trans (hb3.output.trans (h1.output.trans hb.output))
  · have := h2.size; omega
  · intro g hg hne
    rw [h2.keep g (by omega) hne (by omega), hb3.block g (by omega), h1.keep g (by omega) hne, hb.block g hg]
theorem MemAt.below {w w' : World} {mb pb n clk : Nat} {es : Array MapEntry} (h : MemAt w mb pb n es clk) (hb : Below w.heap.size w w') : MemAt w' mb pb n es clk := by
  have hm := World.block_lt_of_cell? w _ h.c0
  have hp : pb < w.heap.size := (Array.getElem?_eq_some_iff.1 h.hb).1
  exact ⟨by rw [hb.cell (by exact hm)]; exact h.c0, by rw [hb.cell (by exact hm)]; exact h.c1, by rw [hb.frozen (by exact hm)]; exact h.f0, by rw [hb.block pb hp]; exact h.hb, h.ne⟩
theorem Made1.labs_old {w w' : World} {mb N pb s c la lo n : Nat} {L L' : Nat → Bool} (h : Made1 w w' mb N L pb s c) (hl : Labs w la lo n L') (h1 : la < w.heap.size) (h2 : la ≠ mb) : Labs w' la lo n L' := fun i hi => by rw [World.cell?_of_block (h.keep la h1 h2)]; exact hl i hi
theorem make8 (w : World) : (Instr.makeSlice 28 (.int .i64 8) (.int .i64 8)).run Try.prog w = .ok (.slice (some ⟨w.heap.size, 0, none⟩) 8 8) (w.alloc (.cells (madeCells #[.bool false] 8) 4)) := make_bools 8 (by omega) w

structure Bg0 (w : World) (A X : Nat) (n0 n1 : Int) : Prop where
  a0 : w.cell? ⟨A, 0, none⟩ = some (.int .i64 n0)
  a1 : w.cell? ⟨A, 1, none⟩ = some (.int .i64 n1)
  t0 : w.cell? ⟨X, 0, none⟩ = some (.int .i64 1)
  t1 : w.cell? ⟨X, 1, none⟩ = some (.int .i64 8)
  t2 : w.cell? ⟨X, 2, none⟩ = some (.bool true)
  t3 : w.cell? ⟨X, 3, none⟩ = some (.bool false)
  t4 : w.cell? ⟨X, 4, none⟩ = some (.pointer none)
  t5 : w.cell? ⟨X, 5, none⟩ = some (.int .i64 0)
  t6 : w.cell? ⟨X, 6, none⟩ = some (.int .i64 0)
  t7 : w.cell? ⟨X, 7, none⟩ = some (.slice none 0 0)
  t8 : w.cell? ⟨X, 8, none⟩ = some (.pointer none)
theorem Bg0.keep {w w' : World} {A X : Nat} {n0 n1 : Int} (h : Bg0 w A X n0 n1) (eA : w'.heap[A]? = w.heap[A]?) (eX : w'.heap[X]? = w.heap[X]?) : Bg0 w' A X n0 n1 := ⟨by rw [World.cell?_of_block eA]; exact h.a0, by rw [World.cell?_of_block eA]; exact h.a1, by rw [World.cell?_of_block eX]; exact h.t0, by rw [World.cell?_of_block eX]; exact h.t1, by rw [World.cell?_of_block eX]; exact h.t2, by rw [World.cell?_of_block eX]; exact h.t3, by rw [World.cell?_of_block eX]; exact h.t4, by rw [World.cell?_of_block eX]; exact h.t5, by rw [World.cell?_of_block eX]; exact h.t6, by rw [World.cell?_of_block eX]; exact h.t7, by rw [World.cell?_of_block eX]; exact h.t8⟩
structure Bg (w : World) (A X P Q : Nat) (n0 n1 : Int) : Prop where
  a0 : w.cell? ⟨A, 0, none⟩ = some (.int .i64 n0)
  a1 : w.cell? ⟨A, 1, none⟩ = some (.int .i64 n1)
  t0 : w.cell? ⟨X, 0, none⟩ = some (.int .i64 1)
  t1 : w.cell? ⟨X, 1, none⟩ = some (.int .i64 8)
  t2 : w.cell? ⟨X, 2, none⟩ = some (.bool true)
  t3 : w.cell? ⟨X, 3, none⟩ = some (.bool false)
  t4 : w.cell? ⟨X, 4, none⟩ = some (.pointer none)
  t5 : w.cell? ⟨X, 5, none⟩ = some (.int .i64 0)
  t6 : w.cell? ⟨X, 6, none⟩ = some (.int .i64 0)
  t7 : w.cell? ⟨X, 7, none⟩ = some (.slice none 0 0)
  t8 : w.cell? ⟨X, 8, none⟩ = some (.pointer none)
  p0 : w.cell? ⟨P, 0, none⟩ = some (.int .i64 1)
  p1 : w.cell? ⟨P, 1, none⟩ = some (.int .i64 0)
  p2 : w.cell? ⟨P, 2, none⟩ = some (.int .i64 0)
  q0 : w.cell? ⟨Q, 0, none⟩ = some (.int .i64 1)
  q1 : w.cell? ⟨Q, 1, none⟩ = some (.int .i64 1)
  q2 : w.cell? ⟨Q, 2, none⟩ = some (.int .i64 0)
theorem Bg.keep {w w' : World} {A X P Q : Nat} {n0 n1 : Int} (h : Bg w A X P Q n0 n1) (eA : w'.heap[A]? = w.heap[A]?) (eX : w'.heap[X]? = w.heap[X]?) (eP : w'.heap[P]? = w.heap[P]?) (eQ : w'.heap[Q]? = w.heap[Q]?) : Bg w' A X P Q n0 n1 := ⟨by rw [World.cell?_of_block eA]; exact h.a0, by rw [World.cell?_of_block eA]; exact h.a1, by rw [World.cell?_of_block eX]; exact h.t0, by rw [World.cell?_of_block eX]; exact h.t1, by rw [World.cell?_of_block eX]; exact h.t2, by rw [World.cell?_of_block eX]; exact h.t3, by rw [World.cell?_of_block eX]; exact h.t4, by rw [World.cell?_of_block eX]; exact h.t5, by rw [World.cell?_of_block eX]; exact h.t6, by rw [World.cell?_of_block eX]; exact h.t7, by rw [World.cell?_of_block eX]; exact h.t8, by rw [World.cell?_of_block eP]; exact h.p0, by rw [World.cell?_of_block eP]; exact h.p1, by rw [World.cell?_of_block eP]; exact h.p2, by rw [World.cell?_of_block eQ]; exact h.q0, by rw [World.cell?_of_block eQ]; exact h.q1, by rw [World.cell?_of_block eQ]; exact h.q2⟩
theorem lt_of_cell {w : World} {b o : Nat} {v : Value} (h : w.cell? ⟨b, o, none⟩ = some v) : b < w.heap.size := by simpa using World.block_lt_of_cell? w _ h
theorem Bg.below {w w' : World} {A X P Q : Nat} {n0 n1 : Int} (h : Bg w A X P Q n0 n1) (hb : Below w.heap.size w w') : Bg w' A X P Q n0 n1 :=
  h.keep (hb.block _ (lt_of_cell h.a0)) (hb.block _ (lt_of_cell h.t0)) (hb.block _ (lt_of_cell h.p0)) (hb.block _ (lt_of_cell h.q0))
theorem Bg.turn {w w' : World} {A X P Q c : Nat} {n0 n1 : Int} (h : Bg w A X P Q n0 n1) (ht : Turn c w w') (hA : A ≠ c) (hX : X ≠ c) (hP : P ≠ c) (hQ : Q ≠ c) : Bg w' A X P Q n0 n1 :=
  h.keep (ht.block _ (lt_of_cell h.a0) hA) (ht.block _ (lt_of_cell h.t0) hX) (ht.block _ (lt_of_cell h.p0) hP) (ht.block _ (lt_of_cell h.q0) hQ)
theorem Bg.of {w wx : World} {A X P Q : Nat} {n0 n1 : Int} (h : Bg0 w A X n0 n1) (hb : Below w.heap.size w wx) (p0 : wx.cell? ⟨P, 0, none⟩ = some (.int .i64 1)) (p1 : wx.cell? ⟨P, 1, none⟩ = some (.int .i64 0)) (p2 : wx.cell? ⟨P, 2, none⟩ = some (.int .i64 0)) (q0 : wx.cell? ⟨Q, 0, none⟩ = some (.int .i64 1)) (q1 : wx.cell? ⟨Q, 1, none⟩ = some (.int .i64 1)) (q2 : wx.cell? ⟨Q, 2, none⟩ = some (.int .i64 0)) : Bg wx A X P Q n0 n1 := by
  have k := h.keep (w' := wx) (hb.block _ (lt_of_cell h.a0)) (hb.block _ (lt_of_cell h.t0))
  exact ⟨k.a0, k.a1, k.t0, k.t1, k.t2, k.t3, k.t4, k.t5, k.t6, k.t7, k.t8, p0, p1, p2, q0, q1, q2⟩
theorem erase_two (a b : MapEntry) : (#[a, b] : Array MapEntry).eraseIdxIfInBounds 0 = #[b] := by
  first
    | (simp [Array.eraseIdxIfInBounds]; done)
    | (apply Array.ext'; simp [Array.eraseIdxIfInBounds, Array.toList_eraseIdx]; done)
    | rfl
theorem ne_of_cell {w : World} {b o pb clk : Nat} {es : Array MapEntry} {v : Value} (h : w.cell? ⟨b, o, none⟩ = some v) (hb : w.heap[pb]? = some (.map es clk)) : b ≠ pb := by
  rintro rfl
  simp [World.cell?, hb] at h
theorem Ob.dropped {w : World} {mb pb : Nat} {es es' : Array MapEntry} {clk : Nat} {o : Int} {s c N : Nat} {L : Nat → Bool} {C : Nat → Cl} (h : Ob w mb pb es clk o s c N L C) (hN : 0 < N) (hf : ∃ i, Instr.findNow (.int .i64) (.int .i64 o) es'.toList 0 = some (some (i, objV s 0 c 0 N))) : Ob (mapSet w pb (.map es' clk)) mb pb es' clk o s c N L C := by
  have n1 := ne_of_cell h.c1 h.hb
  have n2 : s ≠ pb := ne_of_cell (h.labs 0 hN) h.hb
  have kc := mapSet_other w pb c (.map es' clk) h.cp
  have hz : (mapSet w pb (.map es' clk)).heap.size = w.heap.size := by simp [mapSet]
  exact ⟨by rw [World.cell?_of_block (mapSet_other w pb mb _ n1)]; exact h.c1, mapSet_at w pb _ h.hb, hf, fun i hi => by rw [World.cell?_of_block (mapSet_other w pb s _ n2)]; exact h.labs i hi,
    fun i hi => by
      obtain ⟨e0, e1, e2, e3, e4⟩ := h.cells i hi
      exact ⟨by rw [World.cell?_of_block kc]; exact e0, by rw [World.cell?_of_block kc]; exact e1, by rw [World.cell?_of_block kc]; exact e2, by rw [World.cell?_of_block kc]; exact e3, by rw [World.cell?_of_block kc]; exact e4⟩,
    fun j => by rw [World.frozen?_of_block kc]; exact h.fz j, by rw [hz]; exact h.sl, by rw [hz]; exact h.cl, h.sc, h.cm, h.cp, h.hN⟩
theorem mapSet_below {lim : Nat} {w w' : World} {pb : Nat} {o : Obj} (h : Below lim w w') (hl : lim ≤ pb) : Below lim w (mapSet w' pb o) :=
  ⟨h.os, h.tape, h.output, by have := h.size; simpa [mapSet] using this, fun g hg => by rw [mapSet_other w' pb g o (by omega)]; exact h.block g hg⟩
set_option maxRecDepth 100000 in
set_option maxHeartbeats 16000000 in
theorem gone_any (n0 n1 : Int) (h0 : -9223372036854775808 ≤ n0 ∧ n0 ≤ 9223372036854775807) (h1 : -9223372036854775808 ≤ n1 ∧ n1 ≤ 9223372036854775807) (fg : Bool) (w : World) :
    Calls Try.prog 6 #[.agg #[.int .i64 n0, .int .i64 n1], .bool fg] w (BoolRes true w) := by
  have HN0 := Lib.hid h0
  have HN1 := Lib.hid h1
  clear h0 h1
  have hm8 := make8
  go_enter Try.func6, Try.ntmps6
  go_wp2_with fail
  refine (fit_any _).mono ?_
  rintro e w1 ⟨rfl, hb1⟩
  have n0c : w1.cell? ⟨w.heap.size, 0, none⟩ = some (.int .i64 n0) := by rw [hb1.cell (by simp)]; simp
  have n1c : w1.cell? ⟨w.heap.size, 1, none⟩ = some (.int .i64 n1) := by rw [hb1.cell (by simp)]; simp
  have hz1 : w.heap.size < w1.heap.size := by have := hb1.size; simp at this; omega
  have HB1 : Hid (Below w.heap.size w w1) := Lib.hid (((Below.refl _ _).alloc (Nat.le_refl _) _).trans (hb1.mono (by simp)))
  clear hb1
  go_wp2_with (go_at_call 10; (with_reducible refine (new_any _).mono ?_); rintro e w' ⟨rfl, rfl⟩)
  (with_reducible refine (intOf_any 8 true _).mono ?_)
  rintro e w2 ⟨rfl, hb2⟩
  obtain ⟨mb, hmb⟩ : ∃ mb, mb = w1.heap.size := ⟨_, rfl⟩
  rw [← hmb]
  have m0 : w2.cell? ⟨mb, 0, none⟩ = some (.int .i64 0) := by rw [hmb, hb2.cell (by simp)]; simp
  have m1 : w2.cell? ⟨mb, 1, none⟩ = some (.map none) := by rw [hmb, hb2.cell (by simp)]; simp
  have mf0 : w2.frozen? ⟨mb, 0, none⟩ = false := by rw [hmb, hb2.frozen (by simp)]; simp
  have mf1 : w2.frozen? ⟨mb, 1, none⟩ = false := by rw [hmb, hb2.frozen (by simp)]; simp
  have hz2 : mb < w2.heap.size := by have := hb2.size; simp at this; omega
  have hb12 : Below w1.heap.size w1 w2 := ((Below.refl _ _).alloc (Nat.le_refl _) _).trans (hb2.mono (by simp))
  have HB12 := Lib.hid hb12
  have HMB := Lib.hid hmb
  clear hb2 hb12 hmb
  go_upto_region 5 with fail
  generalize hW : w2.alloc (.cells #[.int .i64 1, .int .i64 8, .bool true, .bool false, .pointer none, .int .i64 0, .int .i64 0, .slice none 0 0, .pointer none] 57) = W
  have hbW : Below w2.heap.size w2 W := by rw [← hW]; exact (Below.refl _ _).alloc (Nat.le_refl _) _
  have hzW : W.heap.size = w2.heap.size + 1 := by rw [← hW]; simp
  have t0 : W.cell? ⟨w2.heap.size, 0, none⟩ = some (.int .i64 1) := by rw [← hW]; exact cell_new _ _ _ _ _ rfl
  have t1 : W.cell? ⟨w2.heap.size, 1, none⟩ = some (.int .i64 8) := by rw [← hW]; exact cell_new _ _ _ _ _ rfl
  have t2 : W.cell? ⟨w2.heap.size, 2, none⟩ = some (.bool true) := by rw [← hW]; exact cell_new _ _ _ _ _ rfl
  have t3 : W.cell? ⟨w2.heap.size, 3, none⟩ = some (.bool false) := by rw [← hW]; exact cell_new _ _ _ _ _ rfl
  have t4 : W.cell? ⟨w2.heap.size, 4, none⟩ = some (.pointer none) := by rw [← hW]; exact cell_new _ _ _ _ _ rfl
  have t5 : W.cell? ⟨w2.heap.size, 5, none⟩ = some (.int .i64 0) := by rw [← hW]; exact cell_new _ _ _ _ _ rfl
  have t6 : W.cell? ⟨w2.heap.size, 6, none⟩ = some (.int .i64 0) := by rw [← hW]; exact cell_new _ _ _ _ _ rfl
  have t7 : W.cell? ⟨w2.heap.size, 7, none⟩ = some (.slice none 0 0) := by rw [← hW]; exact cell_new _ _ _ _ _ rfl
  have t8 : W.cell? ⟨w2.heap.size, 8, none⟩ = some (.pointer none) := by rw [← hW]; exact cell_new _ _ _ _ _ rfl
  have c0 : W.cell? ⟨mb, 0, none⟩ = some (.int .i64 0) := by rw [hbW.cell (by exact hz2)]; exact m0
  have c1 : W.cell? ⟨mb, 1, none⟩ = some (.map none) := by rw [hbW.cell (by exact hz2)]; exact m1
  have f0 : W.frozen? ⟨mb, 0, none⟩ = false := by rw [hbW.frozen (by exact hz2)]; exact mf0
  have f1 : W.frozen? ⟨mb, 1, none⟩ = false := by rw [hbW.frozen (by exact hz2)]; exact mf1
  have hmbW : mb < W.heap.size := by omega
  have HZW := Lib.hid hzW
  clear hzW
  have BA : Hid (Below W.heap.size W (World.drew (World.alloc W (.cells (madeCells #[.bool false] 8) 4)))) := Lib.hid (((Below.refl _ _).alloc (Nat.le_refl _) _).drew)
  have BB : Hid (Below W.heap.size W (World.drew (World.alloc (World.alloc W (.cells (madeCells #[.bool false] 8) 4)) (.cells (madeCells #[.bool false] 8) 4)))) := Lib.hid ((((Below.refl _ _).alloc (Nat.le_refl _) _).alloc (by simp) _).drew)
  have CA0 := Lib.hid (show (World.drew (World.alloc W (.cells (madeCells #[.bool false] 8) 4))).cell? ⟨mb, 0, none⟩ = some (.int .i64 0) by rw [BA.out.cell (by exact hmbW)]; exact c0)
  have CB0 := Lib.hid (show (World.drew (World.alloc (World.alloc W (.cells (madeCells #[.bool false] 8) 4)) (.cells (madeCells #[.bool false] 8) 4))).cell? ⟨mb, 0, none⟩ = some (.int .i64 0) by rw [BB.out.cell (by exact hmbW)]; exact c0)
  have CA1 := Lib.hid (show (World.drew (World.alloc W (.cells (madeCells #[.bool false] 8) 4))).cell? ⟨mb, 1, none⟩ = some (.map none) by rw [BA.out.cell (by exact hmbW)]; exact c1)
  have CB1 := Lib.hid (show (World.drew (World.alloc (World.alloc W (.cells (madeCells #[.bool false] 8) 4)) (.cells (madeCells #[.bool false] 8) 4))).cell? ⟨mb, 1, none⟩ = some (.map none) by rw [BB.out.cell (by exact hmbW)]; exact c1)
  have FA0 := Lib.hid (show (World.drew (World.alloc W (.cells (madeCells #[.bool false] 8) 4))).frozen? ⟨mb, 0, none⟩ = false by rw [BA.out.frozen (by exact hmbW)]; exact f0)
  have FB0 := Lib.hid (show (World.drew (World.alloc (World.alloc W (.cells (madeCells #[.bool false] 8) 4)) (.cells (madeCells #[.bool false] 8) 4))).frozen? ⟨mb, 0, none⟩ = false by rw [BB.out.frozen (by exact hmbW)]; exact f0)
  have FA1 := Lib.hid (show (World.drew (World.alloc W (.cells (madeCells #[.bool false] 8) 4))).frozen? ⟨mb, 1, none⟩ = false by rw [BA.out.frozen (by exact hmbW)]; exact f1)
  have FB1 := Lib.hid (show (World.drew (World.alloc (World.alloc W (.cells (madeCells #[.bool false] 8) 4)) (.cells (madeCells #[.bool false] 8) 4))).frozen? ⟨mb, 1, none⟩ = false by rw [BB.out.frozen (by exact hmbW)]; exact f1)
  have LA : Hid (Labs (World.drew (World.alloc W (.cells (madeCells #[.bool false] 8) 4))) W.heap.size 0 8 (fun _ => false)) := Lib.hid (labs_new W (W.alloc (.cells (madeCells #[.bool false] 8) 4)) 8 rfl)
  have LB0 : Hid (Labs (World.drew (World.alloc (World.alloc W (.cells (madeCells #[.bool false] 8) 4)) (.cells (madeCells #[.bool false] 8) 4))) W.heap.size 0 8 (fun _ => false)) := Lib.hid (fun i hi => by
    have := ((labs_new W (W.alloc (.cells (madeCells #[.bool false] 8) 4)) 8 rfl).below ((Below.refl (W.alloc (.cells (madeCells #[.bool false] 8) 4)).heap.size (W.alloc (.cells (madeCells #[.bool false] 8) 4))).alloc (Nat.le_refl _) (.cells (madeCells #[.bool false] 8) 4)) (by simp)) i hi
    exact this)
  have LB1 : Hid (Labs (World.drew (World.alloc (World.alloc W (.cells (madeCells #[.bool false] 8) 4)) (.cells (madeCells #[.bool false] 8) 4))) (W.heap.size + 1) 0 8 (fun _ => false)) := Lib.hid (fun i hi => by
    have := labs_new (W.alloc (.cells (madeCells #[.bool false] 8) 4)) _ 8 rfl i hi
    rw [World.size_alloc] at this
    exact this)
  have SA := Lib.hid (show W.heap.size < (World.drew (World.alloc W (.cells (madeCells #[.bool false] 8) 4))).heap.size by simp)
  have SB0 := Lib.hid (show W.heap.size < (World.drew (World.alloc (World.alloc W (.cells (madeCells #[.bool false] 8) 4)) (.cells (madeCells #[.bool false] 8) 4))).heap.size by simp; omega)
  have SB1 := Lib.hid (show W.heap.size + 1 < (World.drew (World.alloc (World.alloc W (.cells (madeCells #[.bool false] 8) 4)) (.cells (madeCells #[.bool false] 8) 4))).heap.size by simp)
  have nm0 : W.heap.size ≠ mb := by omega
  have nm1 : W.heap.size + 1 ≠ mb := by omega
  clear hW c0 c1 f0 f1 m0 m1 mf0 mf1
  go_cut [7, 8] (fun s7 s8 wx => ∃ (W' : World) (pb s c s2 c2 : Nat), W' = wx ∧ s7 = .int .i64 0 ∧ s8 = .int .i64 1 ∧ Two W W' mb pb s c s2 c2)
  case first =>
    go_region_with
      (first
        | (go_at_call 21
           (have hmm := HM1.out
            with_reducible refine (make_next mb pb 1 8 (by omega) (by omega) #[{ key := .int .i64 0, val := objV s 0 c 0 8, born := 0 }] 1 rfl _ 0 8 (fun _ => false) _ (by first | exact HM1.out.mem | exact HM1.out.mem.below ((Below.refl _ _).alloc (Nat.le_refl _) _)) (by first | exact LO0.out | exact LO1.out | exact labs_new _ _ _ rfl) (by first | exact SO0.out | exact SO1.out | simp)).mono ?_)
           rintro e w4 ⟨rfl, s2, c2, hmade2⟩
           have HTWO : Hid (Two W w4 mb pb s c s2 c2) := Lib.hid (two_of hmbW (by first | exact BA.out | exact BB.out) HM1.out (by first | exact Below.refl _ _ | exact (Below.refl _ _).alloc (Nat.le_refl _) _) hmade2)
           clear hmade2 hmm)
        | (go_at_call 21
           (with_reducible refine (make_first mb 8 (by omega) _ 0 8 (fun _ => false) _ (by first | exact CA0.out | exact CB0.out) (by first | exact CA1.out | exact CB1.out) (by first | exact FA0.out | exact FB0.out) (by first | exact FA1.out | exact FB1.out) (by first | exact LA.out | exact LB0.out | exact LB1.out) (by first | exact SA.out | exact SB0.out | exact SB1.out) (by first | exact nm0 | exact nm1)).mono ?_)
           rintro e w3 ⟨rfl, pb, s, c, hmade⟩
           have HM1 := Lib.hid hmade
           (first | (have LO0 : Hid (Labs w3 W.heap.size 0 8 (fun _ => false)) := Lib.hid (hmade.labs_old LB0.out SB0.out nm0); have LO1 : Hid (Labs w3 (W.heap.size + 1) 0 8 (fun _ => false)) := Lib.hid (hmade.labs_old LB1.out SB1.out nm1); have SO0 : Hid (W.heap.size < w3.heap.size) := Lib.hid (Nat.lt_of_lt_of_le SB0.out hmade.size); have SO1 : Hid (W.heap.size + 1 < w3.heap.size) := Lib.hid (Nat.lt_of_lt_of_le SB1.out hmade.size)) | skip)
           clear hmade))
    all_goals go_wp2_with fail
    all_goals go_meet
    all_goals first | exact ⟨_, _, _, _, _, _, rfl, rfl, rfl, HTWO.out⟩
  case rest =>
    obtain ⟨W', pb, s, c, s2, c2, rfl, rfl, rfl, hT⟩ := hcut
    obtain ⟨A, hA⟩ : ∃ A, A = w.heap.size := ⟨_, rfl⟩
    obtain ⟨X, hX⟩ : ∃ X, X = w2.heap.size := ⟨_, rfl⟩
    have hmbv := HMB.out
    have hzWv := HZW.out
    have hz12 := HB12.out.size
    have hTs := hT.size
    have hbg0 : Bg0 w1 A w2.heap.size n0 n1 → True := fun _ => trivial
    have b0 : Bg0 W A X n0 n1 := by
      have e : W.heap[A]? = w1.heap[A]? := by rw [hbW.block A (by omega), HB12.out.block A (by omega)]
      rw [← hA] at n0c n1c
      rw [← hX] at t0 t1 t2 t3 t4 t5 t6 t7 t8
      exact ⟨by rw [World.cell?_of_block e]; exact n0c, by rw [World.cell?_of_block e]; exact n1c, t0, t1, t2, t3, t4, t5, t6, t7, t8⟩
    have b1 : Bg0 W' A X n0 n1 := b0.keep (hT.keep A (by omega) (by omega)) (hT.keep X (by omega) (by omega))
    have HBG0 := Lib.hid b1
    have HTW := Lib.hid hT
    have hpbl : pb < W'.heap.size := (Array.getElem?_eq_some_iff.1 hT.o0.hb).1
    have HBW : Hid (Below w.heap.size w W') := Lib.hid (by
      have hb := HB1.out
      have hb2 := hb.trans (HB12.out.mono hb.size)
      have hb3 := hb2.trans (hbW.mono hb2.size)
      exact ⟨hT.os.trans hb3.os, hT.tape.trans hb3.tape, hT.output.trans hb3.output, Nat.le_trans hb3.size hT.size, fun g hg => by rw [hT.keep g (by omega) (by omega)]; exact hb3.block g hg⟩)
    have HLT := Lib.hid (show A < W'.heap.size ∧ X < W'.heap.size ∧ pb < W'.heap.size ∧ mb < W'.heap.size ∧ c < W'.heap.size ∧ c2 < W'.heap.size ∧ s < W'.heap.size ∧ s2 < W'.heap.size by
      have h1 := hT.o0.cl
      have h2 := hT.o1.cl
      have h3 := hT.o0.sl
      have h4 := hT.o1.sl
      omega)
    have HNE := Lib.hid (show w.heap.size ≤ A ∧ A ≠ c ∧ A ≠ c2 ∧ X ≠ c ∧ X ≠ c2 ∧ A ≠ pb ∧ X ≠ pb ∧ A ≠ mb ∧ X ≠ mb ∧ w.heap.size ≤ c ∧ w.heap.size ≤ c2 ∧ w.heap.size ≤ pb by
      have h1 := hT.hc
      have h2 := hT.hc2
      have h3 := hT.hp
      omega)
    rw [← hA, ← hX]
    have HA := Lib.hid hA
    clear hA hX hmbv hzWv hz12 hTs hbg0 b0 b1 hT hpbl BA BB CA0 CA1 CB0 CB1 FA0 FA1 FB0 FB1 LA LB0 LB1 SA SB0 SB1 nm0 nm1 t0 t1 t2 t3 t4 t5 t6 t7 t8 hbW hz2 hz1 n0c n1c hm8 HB12 hmbW HMB HZW HB1
    go_upto_region 7 with fail
    generalize hWd : (W'.alloc (.cells #[.int .i64 1, .int .i64 0, .int .i64 0] 38)).alloc (.cells #[.int .i64 1, .int .i64 1, .int .i64 0] 38) = Wd
    obtain ⟨P, hP⟩ : ∃ P, P = W'.heap.size := ⟨_, rfl⟩
    obtain ⟨Q, hQ⟩ : ∃ Q, Q = W'.heap.size + 1 := ⟨_, rfl⟩
    rw [← hQ, ← hP]
    have hbd : Below W'.heap.size W' Wd := by rw [← hWd]; exact ((Below.refl _ _).alloc (Nat.le_refl _) _).alloc (by simp) _
    have e0 : Bg Wd A X P Q n0 n1 := Bg.of HBG0.out hbd
      (by rw [← hWd, hP, World.cell?_alloc_lt _ _ _ (by simp)]; exact cell_new _ _ _ _ _ rfl) (by rw [← hWd, hP, World.cell?_alloc_lt _ _ _ (by simp)]; exact cell_new _ _ _ _ _ rfl) (by rw [← hWd, hP, World.cell?_alloc_lt _ _ _ (by simp)]; exact cell_new _ _ _ _ _ rfl)
      (by rw [← hWd, hQ]; exact cell_new _ _ _ _ _ (by simp)) (by rw [← hWd, hQ]; exact cell_new _ _ _ _ _ (by simp)) (by rw [← hWd, hQ]; exact cell_new _ _ _ _ _ (by simp))
    have HBGd := Lib.hid e0
    have HBd : Hid (Below w.heap.size w Wd) := Lib.hid (HBW.out.trans (hbd.mono HBW.out.size))
    have HO0d := Lib.hid (HTW.out.o0.below hbd)
    have HO1d := Lib.hid (HTW.out.o1.below hbd)
    have HPQ := Lib.hid (show P ≠ c ∧ P ≠ c2 ∧ P ≠ pb ∧ Q ≠ c ∧ Q ≠ c2 ∧ Q ≠ pb by
      have := HLT.out
      omega)
    have HTT := Lib.hid (show c2 ≠ s ∧ c ≠ c2 ∧ c ≠ s2 from ⟨fun e => HTW.out.sc e.symm, HTW.out.cc, HTW.out.cs⟩)
    have HPl := Lib.hid (show W'.heap.size ≤ P ∧ W'.heap.size ≤ Q by omega)
    clear hWd hbd e0 HBG0 HBW HTW hP hQ
    have S0 := Lib.hid (HO0d.out.st8 n0)
    obtain ⟨a0, a1, t0, t1, t2, t3, t4, t5, t6, t7, t8, p0, p1, p2, q0, q1, q2⟩ := HBGd.out
    go_wp2_with fail
    (with_reducible refine S0.out.mono ?_)
    rintro e w3 ⟨rfl, ht3, ho3⟩
    clear a0 a1 t0 t1 t2 t3 t4 t5 t6 t7 t8 p0 p1 p2 q0 q1 q2 S0
    have HO03 := Lib.hid ho3
    have HO13 := Lib.hid (HO1d.out.turn ht3 HO0d.out.cm HO0d.out.cp HTT.out.2.2 HTT.out.2.1)
    have HBG3 := Lib.hid (HBGd.out.turn ht3 HNE.out.2.1 HNE.out.2.2.2.1 HPQ.out.1 HPQ.out.2.2.2.1)
    have HB3 : Hid (Below w.heap.size w w3) := Lib.hid (HBd.out.trans (ht3.below HNE.out.2.2.2.2.2.2.2.2.2.1 HBd.out.size))
    clear ho3 ht3 HO0d HO1d HBGd HBd
    have S1 := Lib.hid (HO13.out.st8 n1)
    obtain ⟨a0, a1, t0, t1, t2, t3, t4, t5, t6, t7, t8, p0, p1, p2, q0, q1, q2⟩ := HBG3.out
    go_wp2_with fail
    (with_reducible refine S1.out.mono ?_)
    rintro e w4 ⟨rfl, ht4, ho4⟩
    clear a0 a1 t0 t1 t2 t3 t4 t5 t6 t7 t8 p0 p1 p2 q0 q1 q2 S1
    have HO14 := Lib.hid ho4
    have HO04 := Lib.hid (HO03.out.turn ht4 HO13.out.cm HO13.out.cp HTT.out.1 HTT.out.2.1.symm)
    have HBG4 := Lib.hid (HBG3.out.turn ht4 HNE.out.2.2.1 HNE.out.2.2.2.2.1 HPQ.out.2.1 HPQ.out.2.2.2.2.1)
    have HB4 : Hid (Below w.heap.size w w4) := Lib.hid (HB3.out.trans (ht4.below HNE.out.2.2.2.2.2.2.2.2.2.2.1 HB3.out.size))
    clear ho4 ht4 HO03 HO13 HBG3 HB3
    cases fg
    · have DR := Lib.hid (drop_any mb pb _ _ 0 0 _ (rfl) w4 HO04.out.c1 HO04.out.hb)
      go_wp2_with fail
      (with_reducible refine DR.out.mono ?_)
      rintro e w5 ⟨rfl, h5⟩
      clear DR
      have HO15 : Hid (Ob w5 mb pb #[{ key := .int .i64 1, val := objV s2 0 c2 0 8, born := 1 }] 2 1 s2 c2 8 (fun _ => false) (putC (fun _ => ⟨0, 0, 0, 0, 0⟩) 0 8 n1)) := Lib.hid (by rw [h5, erase_two]; exact HO14.out.dropped (es' := #[{ key := .int .i64 1, val := objV s2 0 c2 0 8, born := 1 }]) (by omega) ⟨0, rfl⟩)
      have HG5 : Hid (BehindIs w5 mb (ptrV 1 0 0) noObj false) := Lib.hid (gone_behind mb pb #[{ key := .int .i64 1, val := objV s2 0 c2 0 8, born := 1 }] 2 0 0 w5 rfl HO15.out.c1 HO15.out.hb)
      have HBG5 : Hid (Bg w5 A X P Q n0 n1) := Lib.hid (by rw [h5]; exact HBG4.out.keep (mapSet_other _ _ _ _ HNE.out.2.2.2.2.2.1) (mapSet_other _ _ _ _ HNE.out.2.2.2.2.2.2.1) (mapSet_other _ _ _ _ HPQ.out.2.2.1) (mapSet_other _ _ _ _ HPQ.out.2.2.2.2.2))
      have HB5 : Hid (Below w.heap.size w w5) := Lib.hid (by rw [h5]; exact mapSet_below HB4.out HNE.out.2.2.2.2.2.2.2.2.2.2.2)
      have HC5 : Hid (c < w5.heap.size) := Lib.hid (by have := HO04.out.cl; rw [h5]; simpa [mapSet] using this)
      clear h5 HO04 HO14 HBG4 HB4
      have L0 := Lib.hid (gone_ld HG5.out)
      obtain ⟨a0, a1, t0, t1, t2, t3, t4, t5, t6, t7, t8, p0, p1, p2, q0, q1, q2⟩ := HBG5.out
      go_wp2_with fail
      (with_reducible refine L0.out.mono ?_)
      rintro e w6 ⟨rfl, hb6⟩
      clear a0 a1 t0 t1 t2 t3 t4 t5 t6 t7 t8 p0 p1 p2 q0 q1 q2 L0
      go_upto_region 13 with fail
      generalize hw7 : w6.alloc (.cells #[.int .i64 0, .int .i64 0, .int .i64 0, .int .i64 0, .bool false] 74) = w7
      have hb7 : Below w5.heap.size w5 w7 := by rw [← hw7]; exact hb6.alloc hb6.size _
      have HBG7 := Lib.hid (HBG5.out.below hb7)
      have HO17 := Lib.hid (HO15.out.below hb7)
      have HB57 := Lib.hid hb7
      clear hw7 hb7 hb6 HBG5
      have L1 := Lib.hid (HO17.out.ld8 HN1.out.1 HN1.out.2)
      obtain ⟨a0, a1, t0, t1, t2, t3, t4, t5, t6, t7, t8, p0, p1, p2, q0, q1, q2⟩ := HBG7.out
      go_wp2_with fail
      (with_reducible refine L1.out.mono ?_)
      rintro e w8 ⟨rfl, hb8⟩
      clear a0 a1 t0 t1 t2 t3 t4 t5 t6 t7 t8 p0 p1 p2 q0 q1 q2 L1
      go_upto_region 14 with fail
      generalize hw9 : w8.alloc (.cells #[.int .i64 n1, .int .i64 0, .int .i64 0, .int .i64 0, .bool false] 74) = w9
      obtain ⟨V, hV⟩ : ∃ V, V = w8.heap.size := ⟨_, rfl⟩
      rw [← hV]
      have hb9 : Below w7.heap.size w7 w9 := by rw [← hw9]; exact hb8.alloc hb8.size _
      have HBG9 := Lib.hid (HBG7.out.below hb9)
      have HO19 := Lib.hid (HO17.out.below hb9)
      have HB59 : Hid (Below w5.heap.size w5 w9) := Lib.hid (HB57.out.trans (hb9.mono HB57.out.size))
      have HB9 : Hid (Below w.heap.size w w9) := Lib.hid (HB5.out.trans (HB59.out.mono HB5.out.size))
      have HV9 : Hid (w9.cell? ⟨V, 0, none⟩ = some (.int .i64 n1)) := Lib.hid (by rw [← hw9, hV]; exact cell_new _ _ _ _ _ rfl)
      have HVc := Lib.hid (show V ≠ c by
        have h1 := HC5.out
        have h2 := HB57.out.size
        have h3 := hb8.size
        omega)
      clear hw9 hb9 hb8 HBG7 HO17 HO15 HB57 HB5 hV
      have S3 := Lib.hid (gone_st 3 (HG5.out.later HB59.out))
      obtain ⟨a0, a1, t0, t1, t2, t3, t4, t5, t6, t7, t8, p0, p1, p2, q0, q1, q2⟩ := HBG9.out
      go_wp2_with fail
      (with_reducible refine S3.out.mono ?_)
      rintro e w10 ⟨rfl, hb10⟩
      clear a0 a1 t0 t1 t2 t3 t4 t5 t6 t7 t8 p0 p1 p2 q0 q1 q2 S3
      have HBG10 := Lib.hid (HBG9.out.below hb10)
      have HO110 := Lib.hid (HO19.out.below hb10)
      have HV10 : Hid (w10.cell? ⟨V, 0, none⟩ = some (.int .i64 n1)) := Lib.hid (by rw [hb10.cell (by exact lt_of_cell HV9.out)]; exact HV9.out)
      have HB10 : Hid (Below w.heap.size w w10) := Lib.hid (HB9.out.trans (hb10.mono HB9.out.size))
      have AL0 := Lib.hid (gone_al (HG5.out.later (HB59.out.trans (hb10.mono HB59.out.size))))
      clear hb10 HG5 HB59 HBG9 HO19 HB9 HV9
      have hvv := HV10.out
      obtain ⟨a0, a1, t0, t1, t2, t3, t4, t5, t6, t7, t8, p0, p1, p2, q0, q1, q2⟩ := HBG10.out
      go_wp2_with fail
      (with_reducible refine AL0.out.mono ?_)
      rintro e w11 ⟨rfl, hb11⟩
      have HBG11 := Lib.hid (HBG10.out.below hb11)
      have AL1 := Lib.hid (HO110.out.below hb11).al8
      have HB11 : Hid (Below w.heap.size w w11) := Lib.hid (HB10.out.trans (hb11.mono HB10.out.size))
      clear a0 a1 t0 t1 t2 t3 t4 t5 t6 t7 t8 p0 p1 p2 q0 q1 q2 AL0 hb11 hvv
      obtain ⟨a0, a1, t0, t1, t2, t3, t4, t5, t6, t7, t8, p0, p1, p2, q0, q1, q2⟩ := HBG11.out
      go_wp2_with fail
      (with_reducible refine AL1.out.mono ?_)
      rintro e w12 ⟨rfl, hb12⟩
      have HB12 : Hid (Below w.heap.size w w12) := Lib.hid (HB11.out.trans (hb12.mono HB11.out.size))
      clear a0 a1 t0 t1 t2 t3 t4 t5 t6 t7 t8 p0 p1 p2 q0 q1 q2 AL1 hb12
      go_wp2_with fail
      go_ret
      exact ⟨rfl, HB12.out⟩
    · have DR := Lib.hid (forget_any mb pb _ _ 0 s c 8 (by omega) _ _ w4 HO04.out)
      go_wp2_with fail
      (with_reducible refine DR.out.mono ?_)
      rintro e w5 ⟨rfl, ht5, ho5⟩
      clear DR
      have HO05 := Lib.hid ho5
      have HO15 := Lib.hid (HO14.out.turn ht5 HO04.out.cm HO04.out.cp HTT.out.2.2 HTT.out.2.1)
      have HBG5 := Lib.hid (HBG4.out.turn ht5 HNE.out.2.1 HNE.out.2.2.2.1 HPQ.out.1 HPQ.out.2.2.2.1)
      have HB5 : Hid (Below w.heap.size w w5) := Lib.hid (HB4.out.trans (ht5.below HNE.out.2.2.2.2.2.2.2.2.2.1 HB4.out.size))
      clear ho5 ht5 HO04 HO14 HBG4 HB4
      have L0 := Lib.hid HO05.out.ld8_none
      obtain ⟨a0, a1, t0, t1, t2, t3, t4, t5, t6, t7, t8, p0, p1, p2, q0, q1, q2⟩ := HBG5.out
      go_wp2_with fail
      (with_reducible refine L0.out.mono ?_)
      rintro e w6 ⟨rfl, hb6⟩
      clear a0 a1 t0 t1 t2 t3 t4 t5 t6 t7 t8 p0 p1 p2 q0 q1 q2 L0
      go_upto_region 13 with fail
      generalize hw7 : w6.alloc (.cells #[.int .i64 0, .int .i64 0, .int .i64 0, .int .i64 0, .bool false] 74) = w7
      have hb7 : Below w5.heap.size w5 w7 := by rw [← hw7]; exact hb6.alloc hb6.size _
      have HBG7 := Lib.hid (HBG5.out.below hb7)
      have HO17 := Lib.hid (HO15.out.below hb7)
      have HB57 := Lib.hid hb7
      clear hw7 hb7 hb6 HBG5
      have L1 := Lib.hid (HO17.out.ld8 HN1.out.1 HN1.out.2)
      obtain ⟨a0, a1, t0, t1, t2, t3, t4, t5, t6, t7, t8, p0, p1, p2, q0, q1, q2⟩ := HBG7.out
      go_wp2_with fail
      (with_reducible refine L1.out.mono ?_)
      rintro e w8 ⟨rfl, hb8⟩
      clear a0 a1 t0 t1 t2 t3 t4 t5 t6 t7 t8 p0 p1 p2 q0 q1 q2 L1
      go_upto_region 14 with fail
      generalize hw9 : w8.alloc (.cells #[.int .i64 n1, .int .i64 0, .int .i64 0, .int .i64 0, .bool false] 74) = w9
      obtain ⟨V, hV⟩ : ∃ V, V = w8.heap.size := ⟨_, rfl⟩
      rw [← hV]
      have hb9 : Below w7.heap.size w7 w9 := by rw [← hw9]; exact hb8.alloc hb8.size _
      have HBG9 := Lib.hid (HBG7.out.below hb9)
      have HO19 := Lib.hid (HO17.out.below hb9)
      have HB59 : Hid (Below w5.heap.size w5 w9) := Lib.hid (HB57.out.trans (hb9.mono HB57.out.size))
      have HB9 : Hid (Below w.heap.size w w9) := Lib.hid (HB5.out.trans (HB59.out.mono HB5.out.size))
      have HV9 : Hid (w9.cell? ⟨V, 0, none⟩ = some (.int .i64 n1)) := Lib.hid (by rw [← hw9, hV]; exact cell_new _ _ _ _ _ rfl)
      have HVc := Lib.hid (show V ≠ c by
        have h1 := HO05.out.cl
        have h2 := HB57.out.size
        have h3 := hb8.size
        omega)
      clear hw9 hb9 hb8 HBG7 HO17 HO15 HB57 HB5 hV
      have S3 := Lib.hid ((HO05.out.below HB59.out).st8 3)
      obtain ⟨a0, a1, t0, t1, t2, t3, t4, t5, t6, t7, t8, p0, p1, p2, q0, q1, q2⟩ := HBG9.out
      go_wp2_with fail
      (with_reducible refine S3.out.mono ?_)
      rintro e w10 ⟨rfl, ht10, ho10⟩
      clear a0 a1 t0 t1 t2 t3 t4 t5 t6 t7 t8 p0 p1 p2 q0 q1 q2 S3
      have HBG10 := Lib.hid (HBG9.out.turn ht10 HNE.out.2.1 HNE.out.2.2.2.1 HPQ.out.1 HPQ.out.2.2.2.1)
      have HO110 := Lib.hid (HO19.out.turn ht10 HO05.out.cm HO05.out.cp HTT.out.2.2 HTT.out.2.1)
      have HV10 : Hid (w10.cell? ⟨V, 0, none⟩ = some (.int .i64 n1)) := Lib.hid (by rw [ht10.cell (by exact lt_of_cell HV9.out) (by exact HVc.out)]; exact HV9.out)
      have HB10 : Hid (Below w.heap.size w w10) := Lib.hid (HB9.out.trans (ht10.below HNE.out.2.2.2.2.2.2.2.2.2.1 HB9.out.size))
      have AL0 := Lib.hid ho10.al8
      clear ht10 ho10 HO05 HB59 HBG9 HO19 HB9 HV9
      have hvv := HV10.out
      obtain ⟨a0, a1, t0, t1, t2, t3, t4, t5, t6, t7, t8, p0, p1, p2, q0, q1, q2⟩ := HBG10.out
      go_wp2_with fail
      (with_reducible refine AL0.out.mono ?_)
      rintro e w11 ⟨rfl, hb11⟩
      have HBG11 := Lib.hid (HBG10.out.below hb11)
      have AL1 := Lib.hid (HO110.out.below hb11).al8
      have HB11 : Hid (Below w.heap.size w w11) := Lib.hid (HB10.out.trans (hb11.mono HB10.out.size))
      clear a0 a1 t0 t1 t2 t3 t4 t5 t6 t7 t8 p0 p1 p2 q0 q1 q2 AL0 hb11 hvv
      obtain ⟨a0, a1, t0, t1, t2, t3, t4, t5, t6, t7, t8, p0, p1, p2, q0, q1, q2⟩ := HBG11.out
      go_wp2_with fail
      (with_reducible refine AL1.out.mono ?_)
      rintro e w12 ⟨rfl, hb12⟩
      have HB12 : Hid (Below w.heap.size w w12) := Lib.hid (HB11.out.trans (hb12.mono HB11.out.size))
      clear a0 a1 t0 t1 t2 t3 t4 t5 t6 t7 t8 p0 p1 p2 q0 q1 q2 AL1 hb12
      go_wp2_with fail
      go_ret
      exact ⟨rfl, HB12.out⟩
end Go.Proofs.Ytdkhanjfncbfnaa
