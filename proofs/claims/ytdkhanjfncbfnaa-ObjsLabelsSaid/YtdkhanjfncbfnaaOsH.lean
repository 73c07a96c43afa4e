import Derived.Test.YtdkhanjfncbfnaaOsG
namespace Go.Proofs.Ytdkhanjfncbfnaa
open Go Go.RowKit
set_option linter.unusedVariables false
set_option linter.unusedSimpArgs false

set_option maxRecDepth 100000 in
set_option maxHeartbeats 8000000 in
theorem number_no (s so c co sz r : Nat) (hsz : 0 < sz) (hr : sz ≤ 1000000000) (sg : Bool) (C : Nat → Cl) (hh : (C 0).h ≠ 1) (w : World) (hC : Cells5 w c co sz C) (hcl : c < w.heap.size) :
    Calls Try.prog 48 #[.agg #[.slice (some ⟨s, so, none⟩) sz r, .slice (some ⟨c, co, none⟩) sz r], .bool sg] w fun e w' => e = .returned (.tuple #[numV 0, .bool false]) ∧ Below w.heap.size w w' := by
  have HC := Lib.hid hC
  clear hC
  go_enter Try.func48, Try.ntmps48
  go_wp2_with fail
  generalize hW : (w.alloc (.cells #[.slice (some ⟨s, so, none⟩) sz r, .slice (some ⟨c, co, none⟩) sz r] 102)).alloc (.cells #[.int .i64 0, .int .i64 0, .int .i64 0, .int .i64 0, .bool false] 74) = W
  have hbW : Below w.heap.size w W := by rw [← hW]; exact ((Below.refl _ _).alloc (Nat.le_refl _) _).alloc (by simp) _
  have hsW : W.heap.size = w.heap.size + 2 := by rw [← hW]; simp
  have y0 : W.cell? ⟨w.heap.size + 1, 0, none⟩ = some (.int .i64 0) := by rw [← hW]; exact cell_new _ _ _ _ _ (by simp)
  have y1 : W.cell? ⟨w.heap.size + 1, 1, none⟩ = some (.int .i64 0) := by rw [← hW]; exact cell_new _ _ _ _ _ (by simp)
  have y2 : W.cell? ⟨w.heap.size + 1, 2, none⟩ = some (.int .i64 0) := by rw [← hW]; exact cell_new _ _ _ _ _ (by simp)
  have y3 : W.cell? ⟨w.heap.size + 1, 3, none⟩ = some (.int .i64 0) := by rw [← hW]; exact cell_new _ _ _ _ _ (by simp)
  have y4 : W.cell? ⟨w.heap.size + 1, 4, none⟩ = some (.bool false) := by rw [← hW]; exact cell_new _ _ _ _ _ (by simp)
  have z0 : W.frozen? ⟨w.heap.size + 1, 0, none⟩ = false := by rw [← hW]; exact frozen_new _ _ _ _ _ (by simp)
  have z1 : W.frozen? ⟨w.heap.size + 1, 1, none⟩ = false := by rw [← hW]; exact frozen_new _ _ _ _ _ (by simp)
  have z2 : W.frozen? ⟨w.heap.size + 1, 2, none⟩ = false := by rw [← hW]; exact frozen_new _ _ _ _ _ (by simp)
  have z3 : W.frozen? ⟨w.heap.size + 1, 3, none⟩ = false := by rw [← hW]; exact frozen_new _ _ _ _ _ (by simp)
  have z4 : W.frozen? ⟨w.heap.size + 1, 4, none⟩ = false := by rw [← hW]; exact frozen_new _ _ _ _ _ (by simp)
  have HBW := Lib.hid hbW
  have hs1 : w.heap.size + 1 < W.heap.size := by omega
  have hn1 : w.heap.size + 1 ≠ W.heap.size := by omega
  obtain ⟨c0, c1, c2, c3, c4⟩ := HC.out.below hbW hcl 0 hsz
  simp only [Nat.zero_mul, Nat.add_zero] at c0 c1 c2 c3 c4
  have hsi : (0 : Int) < sz := by omega
  clear hW hbW hsW
  go_loopw [13, 6] (fun s13 s6 wr => s13 = .int .i64 0 ∧ wr = W) (fun s13 _ _ => 1)
  case atStart => exact ⟨rfl, rfl⟩
  case round =>
    obtain ⟨rfl, rfl⟩ := hrel
    go_wp2_with fail
    have hbv := HBW.out
    refine bodyPost_ret (v := .tuple #[numV 0, .bool false]) ?_ rfl ⟨rfl, ?_⟩
    · simp [results, Try.results48, go_sem, numV, y0, y1, y2, y3, y4, hs1, hn1]
    · ((repeat (first | (with_reducible exact hbv) | (with_reducible apply Below.setCell) | (with_reducible apply Below.alloc) | (with_reducible apply Below.drew))) <;> first | omega | (simp <;> omega))

/-- What access answers in every world from w on. -/
def AccIs (w : World) (mb : Nat) (p t v : Value) (ok : Bool) : Prop := ∀ w', Below w.heap.size w w' → Calls Try.prog 45 #[.pointer (some ⟨mb, 0, none⟩), p, t] w' fun e w2 => e = .returned (.tuple #[v, .bool ok]) ∧ Below w'.heap.size w' w2

set_option maxRecDepth 100000 in
set_option maxHeartbeats 8000000 in
theorem load_no (mb : Nat) (k o f : Int) (sz : Int) (sg sc : Bool)  (w : World) (h : AccIs w mb (ptrV k o f) (tI sz sg sc) noObj false) :
    Calls Try.prog 23 #[.pointer (some ⟨mb, 0, none⟩), ptrV k o f, (tI sz sg sc)] w fun e w' => e = .returned (.tuple #[numV 0, .bool false]) ∧ Below w.heap.size w w' := by
  have h' := h
  unfold AccIs ptrV tI at h'
  (try unfold noObj at h')
  have H := Lib.hid h'
  clear h h'
  unfold ptrV tI
  go_enter Try.func23, Try.ntmps23
  go_wp2_with fail
  have hb0 : Below w.heap.size w (((w.alloc (.cells #[.int .i64 k, .int .i64 o, .int .i64 f] 38)).alloc (.cells #[.int .i64 1, .int .i64 sz, .bool sg, .bool sc, .pointer none, .int .i64 0, .int .i64 0, .slice none 0 0, .pointer none] 57)).alloc (.cells #[.int .i64 0, .int .i64 0, .int .i64 0, .int .i64 0, .bool false] 74)) := (((Below.refl _ _).alloc (Nat.le_refl _) _).alloc (by simp) _).alloc (by simp; omega) _
  (with_reducible refine (H.out _ hb0).mono ?_)
  rintro e w1 ⟨rfl, hb1⟩
  have HB1 : Hid (Below w.heap.size w w1) := Lib.hid (hb0.trans (hb1.mono hb0.size))
  have hs1 : w.heap.size + 3 ≤ w1.heap.size := by have := hb1.size; simp at this; omega
  have a10 : w1.cell? ⟨w.heap.size + 1, 0, none⟩ = some (.int .i64 1) := by rw [hb1.cell (by simp; try omega), World.cell?_alloc_lt _ _ _ (by simp; try omega)]; exact cell_new _ _ _ _ _ (by simp)
  have a11 : w1.cell? ⟨w.heap.size + 1, 1, none⟩ = some (.int .i64 sz) := by rw [hb1.cell (by simp; try omega), World.cell?_alloc_lt _ _ _ (by simp; try omega)]; exact cell_new _ _ _ _ _ (by simp)
  have a12 : w1.cell? ⟨w.heap.size + 1, 2, none⟩ = some (.bool sg) := by rw [hb1.cell (by simp; try omega), World.cell?_alloc_lt _ _ _ (by simp; try omega)]; exact cell_new _ _ _ _ _ (by simp)
  have a13 : w1.cell? ⟨w.heap.size + 1, 3, none⟩ = some (.bool sc) := by rw [hb1.cell (by simp; try omega), World.cell?_alloc_lt _ _ _ (by simp; try omega)]; exact cell_new _ _ _ _ _ (by simp)
  have a14 : w1.cell? ⟨w.heap.size + 1, 4, none⟩ = some (.pointer none) := by rw [hb1.cell (by simp; try omega), World.cell?_alloc_lt _ _ _ (by simp; try omega)]; exact cell_new _ _ _ _ _ (by simp)
  have a15 : w1.cell? ⟨w.heap.size + 1, 5, none⟩ = some (.int .i64 0) := by rw [hb1.cell (by simp; try omega), World.cell?_alloc_lt _ _ _ (by simp; try omega)]; exact cell_new _ _ _ _ _ (by simp)
  have a16 : w1.cell? ⟨w.heap.size + 1, 6, none⟩ = some (.int .i64 0) := by rw [hb1.cell (by simp; try omega), World.cell?_alloc_lt _ _ _ (by simp; try omega)]; exact cell_new _ _ _ _ _ (by simp)
  have a17 : w1.cell? ⟨w.heap.size + 1, 7, none⟩ = some (.slice none 0 0) := by rw [hb1.cell (by simp; try omega), World.cell?_alloc_lt _ _ _ (by simp; try omega)]; exact cell_new _ _ _ _ _ (by simp)
  have a18 : w1.cell? ⟨w.heap.size + 1, 8, none⟩ = some (.pointer none) := by rw [hb1.cell (by simp; try omega), World.cell?_alloc_lt _ _ _ (by simp; try omega)]; exact cell_new _ _ _ _ _ (by simp)
  have a20 : w1.cell? ⟨w.heap.size + 2, 0, none⟩ = some (.int .i64 0) := by rw [hb1.cell (by simp; try omega)]; exact cell_new _ _ _ _ _ (by simp)
  have a21 : w1.cell? ⟨w.heap.size + 2, 1, none⟩ = some (.int .i64 0) := by rw [hb1.cell (by simp; try omega)]; exact cell_new _ _ _ _ _ (by simp)
  have a22 : w1.cell? ⟨w.heap.size + 2, 2, none⟩ = some (.int .i64 0) := by rw [hb1.cell (by simp; try omega)]; exact cell_new _ _ _ _ _ (by simp)
  have a23 : w1.cell? ⟨w.heap.size + 2, 3, none⟩ = some (.int .i64 0) := by rw [hb1.cell (by simp; try omega)]; exact cell_new _ _ _ _ _ (by simp)
  have a24 : w1.cell? ⟨w.heap.size + 2, 4, none⟩ = some (.bool false) := by rw [hb1.cell (by simp; try omega)]; exact cell_new _ _ _ _ _ (by simp)
  have z0 : w1.frozen? ⟨w.heap.size + 2, 0, none⟩ = false := by rw [hb1.frozen (by simp; try omega)]; exact frozen_new _ _ _ _ _ (by simp)
  have z1 : w1.frozen? ⟨w.heap.size + 2, 1, none⟩ = false := by rw [hb1.frozen (by simp; try omega)]; exact frozen_new _ _ _ _ _ (by simp)
  have z2 : w1.frozen? ⟨w.heap.size + 2, 2, none⟩ = false := by rw [hb1.frozen (by simp; try omega)]; exact frozen_new _ _ _ _ _ (by simp)
  have z3 : w1.frozen? ⟨w.heap.size + 2, 3, none⟩ = false := by rw [hb1.frozen (by simp; try omega)]; exact frozen_new _ _ _ _ _ (by simp)
  have z4 : w1.frozen? ⟨w.heap.size + 2, 4, none⟩ = false := by rw [hb1.frozen (by simp; try omega)]; exact frozen_new _ _ _ _ _ (by simp)
  clear hb0 hb1
  have hl1 : w.heap.size + 1 < w1.heap.size := by omega
  have hn1 : w.heap.size + 1 ≠ w1.heap.size := by omega
  have hl2 : w.heap.size + 2 < w1.heap.size := by omega
  have hn2 : w.heap.size + 2 ≠ w1.heap.size := by omega
  go_wp2_with fail
  have hbv := HB1.out
  refine bodyPost_ret (v := .tuple #[numV 0, .bool false]) ?_ rfl ⟨rfl, ?_⟩
  · simp [results, Try.results23, go_sem, numV, a20, a21, a22, a23, a24, hl1, hl2, hn1, hn2]
  · ((repeat (first | (with_reducible exact hbv) | (with_reducible apply Below.setCell) | (with_reducible apply Below.alloc) | (with_reducible apply Below.drew))) <;> first | omega | (simp <;> omega))

set_option maxRecDepth 100000 in
set_option maxHeartbeats 8000000 in
theorem load_int (mb : Nat) (k o f : Int) (sz : Int) (sg sc : Bool) (s so c co n1 r : Nat) (x : Int) (b : Bool) (w : World) (h : AccIs w mb (ptrV k o f) (tI sz sg sc) (.agg #[.slice (some ⟨s, so, none⟩) n1 r, .slice (some ⟨c, co, none⟩) n1 r]) true) (hnum : ∀ w', Below w.heap.size w w' → Calls Try.prog 48 #[.agg #[.slice (some ⟨s, so, none⟩) n1 r, .slice (some ⟨c, co, none⟩) n1 r], .bool sg] w' fun e w2 => e = .returned (.tuple #[numV x, .bool b]) ∧ Below w'.heap.size w' w2) :
    Calls Try.prog 23 #[.pointer (some ⟨mb, 0, none⟩), ptrV k o f, (tI sz sg sc)] w fun e w' => e = .returned (.tuple #[numV x, .bool b]) ∧ Below w.heap.size w w' := by
  have h' := h
  unfold AccIs ptrV tI at h'
  (try unfold noObj at h')
  have H := Lib.hid h'
  clear h h'
  unfold ptrV tI
  have hnum' := hnum
  (try unfold numV at hnum')
  (try unfold pvV at hnum')
  have HNM := Lib.hid hnum'
  clear hnum hnum'
  go_enter Try.func23, Try.ntmps23
  go_wp2_with fail
  have hb0 : Below w.heap.size w (((w.alloc (.cells #[.int .i64 k, .int .i64 o, .int .i64 f] 38)).alloc (.cells #[.int .i64 1, .int .i64 sz, .bool sg, .bool sc, .pointer none, .int .i64 0, .int .i64 0, .slice none 0 0, .pointer none] 57)).alloc (.cells #[.int .i64 0, .int .i64 0, .int .i64 0, .int .i64 0, .bool false] 74)) := (((Below.refl _ _).alloc (Nat.le_refl _) _).alloc (by simp) _).alloc (by simp; omega) _
  (with_reducible refine (H.out _ hb0).mono ?_)
  rintro e w1 ⟨rfl, hb1⟩
  have HB1 : Hid (Below w.heap.size w w1) := Lib.hid (hb0.trans (hb1.mono hb0.size))
  have hs1 : w.heap.size + 3 ≤ w1.heap.size := by have := hb1.size; simp at this; omega
  have a10 : w1.cell? ⟨w.heap.size + 1, 0, none⟩ = some (.int .i64 1) := by rw [hb1.cell (by simp; try omega), World.cell?_alloc_lt _ _ _ (by simp; try omega)]; exact cell_new _ _ _ _ _ (by simp)
  have a11 : w1.cell? ⟨w.heap.size + 1, 1, none⟩ = some (.int .i64 sz) := by rw [hb1.cell (by simp; try omega), World.cell?_alloc_lt _ _ _ (by simp; try omega)]; exact cell_new _ _ _ _ _ (by simp)
  have a12 : w1.cell? ⟨w.heap.size + 1, 2, none⟩ = some (.bool sg) := by rw [hb1.cell (by simp; try omega), World.cell?_alloc_lt _ _ _ (by simp; try omega)]; exact cell_new _ _ _ _ _ (by simp)
  have a13 : w1.cell? ⟨w.heap.size + 1, 3, none⟩ = some (.bool sc) := by rw [hb1.cell (by simp; try omega), World.cell?_alloc_lt _ _ _ (by simp; try omega)]; exact cell_new _ _ _ _ _ (by simp)
  have a14 : w1.cell? ⟨w.heap.size + 1, 4, none⟩ = some (.pointer none) := by rw [hb1.cell (by simp; try omega), World.cell?_alloc_lt _ _ _ (by simp; try omega)]; exact cell_new _ _ _ _ _ (by simp)
  have a15 : w1.cell? ⟨w.heap.size + 1, 5, none⟩ = some (.int .i64 0) := by rw [hb1.cell (by simp; try omega), World.cell?_alloc_lt _ _ _ (by simp; try omega)]; exact cell_new _ _ _ _ _ (by simp)
  have a16 : w1.cell? ⟨w.heap.size + 1, 6, none⟩ = some (.int .i64 0) := by rw [hb1.cell (by simp; try omega), World.cell?_alloc_lt _ _ _ (by simp; try omega)]; exact cell_new _ _ _ _ _ (by simp)
  have a17 : w1.cell? ⟨w.heap.size + 1, 7, none⟩ = some (.slice none 0 0) := by rw [hb1.cell (by simp; try omega), World.cell?_alloc_lt _ _ _ (by simp; try omega)]; exact cell_new _ _ _ _ _ (by simp)
  have a18 : w1.cell? ⟨w.heap.size + 1, 8, none⟩ = some (.pointer none) := by rw [hb1.cell (by simp; try omega), World.cell?_alloc_lt _ _ _ (by simp; try omega)]; exact cell_new _ _ _ _ _ (by simp)
  have a20 : w1.cell? ⟨w.heap.size + 2, 0, none⟩ = some (.int .i64 0) := by rw [hb1.cell (by simp; try omega)]; exact cell_new _ _ _ _ _ (by simp)
  have a21 : w1.cell? ⟨w.heap.size + 2, 1, none⟩ = some (.int .i64 0) := by rw [hb1.cell (by simp; try omega)]; exact cell_new _ _ _ _ _ (by simp)
  have a22 : w1.cell? ⟨w.heap.size + 2, 2, none⟩ = some (.int .i64 0) := by rw [hb1.cell (by simp; try omega)]; exact cell_new _ _ _ _ _ (by simp)
  have a23 : w1.cell? ⟨w.heap.size + 2, 3, none⟩ = some (.int .i64 0) := by rw [hb1.cell (by simp; try omega)]; exact cell_new _ _ _ _ _ (by simp)
  have a24 : w1.cell? ⟨w.heap.size + 2, 4, none⟩ = some (.bool false) := by rw [hb1.cell (by simp; try omega)]; exact cell_new _ _ _ _ _ (by simp)
  have z0 : w1.frozen? ⟨w.heap.size + 2, 0, none⟩ = false := by rw [hb1.frozen (by simp; try omega)]; exact frozen_new _ _ _ _ _ (by simp)
  have z1 : w1.frozen? ⟨w.heap.size + 2, 1, none⟩ = false := by rw [hb1.frozen (by simp; try omega)]; exact frozen_new _ _ _ _ _ (by simp)
  have z2 : w1.frozen? ⟨w.heap.size + 2, 2, none⟩ = false := by rw [hb1.frozen (by simp; try omega)]; exact frozen_new _ _ _ _ _ (by simp)
  have z3 : w1.frozen? ⟨w.heap.size + 2, 3, none⟩ = false := by rw [hb1.frozen (by simp; try omega)]; exact frozen_new _ _ _ _ _ (by simp)
  have z4 : w1.frozen? ⟨w.heap.size + 2, 4, none⟩ = false := by rw [hb1.frozen (by simp; try omega)]; exact frozen_new _ _ _ _ _ (by simp)
  clear hb0 hb1
  have hl1 : w.heap.size + 1 < w1.heap.size := by omega
  have hn1 : w.heap.size + 1 ≠ w1.heap.size := by omega
  have hl2 : w.heap.size + 2 < w1.heap.size := by omega
  have hn2 : w.heap.size + 2 ≠ w1.heap.size := by omega
  go_wp2_with fail
  have hbA := HB1.out.alloc HB1.out.size (.cells #[.slice (some ⟨s, so, none⟩) n1 r, .slice (some ⟨c, co, none⟩) n1 r] 102)
  (with_reducible refine (HNM.out _ hbA).mono ?_)
  rintro e w2 ⟨rfl, hb2⟩
  have HB2 : Hid (Below w.heap.size w w2) := Lib.hid (hbA.trans (hb2.mono hbA.size))
  have hs2 : w1.heap.size + 1 ≤ w2.heap.size := by have := hb2.size; simp at this; omega
  have b20 : w2.cell? ⟨w.heap.size + 2, 0, none⟩ = some (.int .i64 0) := by rw [hb2.cell (by simp; omega), World.cell?_alloc_lt _ _ _ (by show w.heap.size + 2 < w1.heap.size; omega)]; exact a20
  have b21 : w2.cell? ⟨w.heap.size + 2, 1, none⟩ = some (.int .i64 0) := by rw [hb2.cell (by simp; omega), World.cell?_alloc_lt _ _ _ (by show w.heap.size + 2 < w1.heap.size; omega)]; exact a21
  have b22 : w2.cell? ⟨w.heap.size + 2, 2, none⟩ = some (.int .i64 0) := by rw [hb2.cell (by simp; omega), World.cell?_alloc_lt _ _ _ (by show w.heap.size + 2 < w1.heap.size; omega)]; exact a22
  have b23 : w2.cell? ⟨w.heap.size + 2, 3, none⟩ = some (.int .i64 0) := by rw [hb2.cell (by simp; omega), World.cell?_alloc_lt _ _ _ (by show w.heap.size + 2 < w1.heap.size; omega)]; exact a23
  have b24 : w2.cell? ⟨w.heap.size + 2, 4, none⟩ = some (.bool false) := by rw [hb2.cell (by simp; omega), World.cell?_alloc_lt _ _ _ (by show w.heap.size + 2 < w1.heap.size; omega)]; exact a24
  have y0 : w2.frozen? ⟨w.heap.size + 2, 0, none⟩ = false := by rw [hb2.frozen (by simp; omega), ((Below.refl w1.heap.size w1).alloc (Nat.le_refl _) _).frozen (by show w.heap.size + 2 < w1.heap.size; omega)]; exact z0
  have y1 : w2.frozen? ⟨w.heap.size + 2, 1, none⟩ = false := by rw [hb2.frozen (by simp; omega), ((Below.refl w1.heap.size w1).alloc (Nat.le_refl _) _).frozen (by show w.heap.size + 2 < w1.heap.size; omega)]; exact z1
  have y2 : w2.frozen? ⟨w.heap.size + 2, 2, none⟩ = false := by rw [hb2.frozen (by simp; omega), ((Below.refl w1.heap.size w1).alloc (Nat.le_refl _) _).frozen (by show w.heap.size + 2 < w1.heap.size; omega)]; exact z2
  have y3 : w2.frozen? ⟨w.heap.size + 2, 3, none⟩ = false := by rw [hb2.frozen (by simp; omega), ((Below.refl w1.heap.size w1).alloc (Nat.le_refl _) _).frozen (by show w.heap.size + 2 < w1.heap.size; omega)]; exact z3
  have y4 : w2.frozen? ⟨w.heap.size + 2, 4, none⟩ = false := by rw [hb2.frozen (by simp; omega), ((Below.refl w1.heap.size w1).alloc (Nat.le_refl _) _).frozen (by show w.heap.size + 2 < w1.heap.size; omega)]; exact z4
  clear hbA hb2
  go_wp2_with fail
  have hbv := HB2.out
  refine bodyPost_ret (v := .tuple #[numV x, .bool b]) ?_ rfl ⟨rfl, ?_⟩
  · simp [results, Try.results23, go_sem, numV, b20, b21, b22, b23, b24]
  · ((repeat (first | (with_reducible exact hbv) | (with_reducible apply Below.setCell) | (with_reducible apply Below.alloc) | (with_reducible apply Below.drew))) <;> first | omega | (simp <;> omega))

set_option maxRecDepth 100000 in
set_option maxHeartbeats 8000000 in
theorem loadp_no (mb : Nat) (k o f : Int) (el : Option Addr)  (w : World) (h : AccIs w mb (ptrV k o f) (tP el) noObj false) :
    Calls Try.prog 23 #[.pointer (some ⟨mb, 0, none⟩), ptrV k o f, (tP el)] w fun e w' => e = .returned (.tuple #[numV 0, .bool false]) ∧ Below w.heap.size w w' := by
  have h' := h
  unfold AccIs ptrV tP at h'
  (try unfold noObj at h')
  have H := Lib.hid h'
  clear h h'
  unfold ptrV tP
  go_enter Try.func23, Try.ntmps23
  go_wp2_with fail
  have hb0 : Below w.heap.size w (((w.alloc (.cells #[.int .i64 k, .int .i64 o, .int .i64 f] 38)).alloc (.cells #[.int .i64 2, .int .i64 8, .bool false, .bool false, .pointer el, .int .i64 0, .int .i64 0, .slice none 0 0, .pointer none] 57)).alloc (.cells #[.int .i64 0, .int .i64 0, .int .i64 0, .int .i64 0, .bool false] 74)) := (((Below.refl _ _).alloc (Nat.le_refl _) _).alloc (by simp) _).alloc (by simp; omega) _
  (with_reducible refine (H.out _ hb0).mono ?_)
  rintro e w1 ⟨rfl, hb1⟩
  have HB1 : Hid (Below w.heap.size w w1) := Lib.hid (hb0.trans (hb1.mono hb0.size))
  have hs1 : w.heap.size + 3 ≤ w1.heap.size := by have := hb1.size; simp at this; omega
  have a10 : w1.cell? ⟨w.heap.size + 1, 0, none⟩ = some (.int .i64 2) := by rw [hb1.cell (by simp; try omega), World.cell?_alloc_lt _ _ _ (by simp; try omega)]; exact cell_new _ _ _ _ _ (by simp)
  have a11 : w1.cell? ⟨w.heap.size + 1, 1, none⟩ = some (.int .i64 8) := by rw [hb1.cell (by simp; try omega), World.cell?_alloc_lt _ _ _ (by simp; try omega)]; exact cell_new _ _ _ _ _ (by simp)
  have a12 : w1.cell? ⟨w.heap.size + 1, 2, none⟩ = some (.bool false) := by rw [hb1.cell (by simp; try omega), World.cell?_alloc_lt _ _ _ (by simp; try omega)]; exact cell_new _ _ _ _ _ (by simp)
  have a13 : w1.cell? ⟨w.heap.size + 1, 3, none⟩ = some (.bool false) := by rw [hb1.cell (by simp; try omega), World.cell?_alloc_lt _ _ _ (by simp; try omega)]; exact cell_new _ _ _ _ _ (by simp)
  have a14 : w1.cell? ⟨w.heap.size + 1, 4, none⟩ = some (.pointer el) := by rw [hb1.cell (by simp; try omega), World.cell?_alloc_lt _ _ _ (by simp; try omega)]; exact cell_new _ _ _ _ _ (by simp)
  have a15 : w1.cell? ⟨w.heap.size + 1, 5, none⟩ = some (.int .i64 0) := by rw [hb1.cell (by simp; try omega), World.cell?_alloc_lt _ _ _ (by simp; try omega)]; exact cell_new _ _ _ _ _ (by simp)
  have a16 : w1.cell? ⟨w.heap.size + 1, 6, none⟩ = some (.int .i64 0) := by rw [hb1.cell (by simp; try omega), World.cell?_alloc_lt _ _ _ (by simp; try omega)]; exact cell_new _ _ _ _ _ (by simp)
  have a17 : w1.cell? ⟨w.heap.size + 1, 7, none⟩ = some (.slice none 0 0) := by rw [hb1.cell (by simp; try omega), World.cell?_alloc_lt _ _ _ (by simp; try omega)]; exact cell_new _ _ _ _ _ (by simp)
  have a18 : w1.cell? ⟨w.heap.size + 1, 8, none⟩ = some (.pointer none) := by rw [hb1.cell (by simp; try omega), World.cell?_alloc_lt _ _ _ (by simp; try omega)]; exact cell_new _ _ _ _ _ (by simp)
  have a20 : w1.cell? ⟨w.heap.size + 2, 0, none⟩ = some (.int .i64 0) := by rw [hb1.cell (by simp; try omega)]; exact cell_new _ _ _ _ _ (by simp)
  have a21 : w1.cell? ⟨w.heap.size + 2, 1, none⟩ = some (.int .i64 0) := by rw [hb1.cell (by simp; try omega)]; exact cell_new _ _ _ _ _ (by simp)
  have a22 : w1.cell? ⟨w.heap.size + 2, 2, none⟩ = some (.int .i64 0) := by rw [hb1.cell (by simp; try omega)]; exact cell_new _ _ _ _ _ (by simp)
  have a23 : w1.cell? ⟨w.heap.size + 2, 3, none⟩ = some (.int .i64 0) := by rw [hb1.cell (by simp; try omega)]; exact cell_new _ _ _ _ _ (by simp)
  have a24 : w1.cell? ⟨w.heap.size + 2, 4, none⟩ = some (.bool false) := by rw [hb1.cell (by simp; try omega)]; exact cell_new _ _ _ _ _ (by simp)
  have z0 : w1.frozen? ⟨w.heap.size + 2, 0, none⟩ = false := by rw [hb1.frozen (by simp; try omega)]; exact frozen_new _ _ _ _ _ (by simp)
  have z1 : w1.frozen? ⟨w.heap.size + 2, 1, none⟩ = false := by rw [hb1.frozen (by simp; try omega)]; exact frozen_new _ _ _ _ _ (by simp)
  have z2 : w1.frozen? ⟨w.heap.size + 2, 2, none⟩ = false := by rw [hb1.frozen (by simp; try omega)]; exact frozen_new _ _ _ _ _ (by simp)
  have z3 : w1.frozen? ⟨w.heap.size + 2, 3, none⟩ = false := by rw [hb1.frozen (by simp; try omega)]; exact frozen_new _ _ _ _ _ (by simp)
  have z4 : w1.frozen? ⟨w.heap.size + 2, 4, none⟩ = false := by rw [hb1.frozen (by simp; try omega)]; exact frozen_new _ _ _ _ _ (by simp)
  clear hb0 hb1
  have hl1 : w.heap.size + 1 < w1.heap.size := by omega
  have hn1 : w.heap.size + 1 ≠ w1.heap.size := by omega
  have hl2 : w.heap.size + 2 < w1.heap.size := by omega
  have hn2 : w.heap.size + 2 ≠ w1.heap.size := by omega
  go_wp2_with fail
  have hbv := HB1.out
  refine bodyPost_ret (v := .tuple #[numV 0, .bool false]) ?_ rfl ⟨rfl, ?_⟩
  · simp [results, Try.results23, go_sem, numV, a20, a21, a22, a23, a24, hl1, hl2, hn1, hn2]
  · ((repeat (first | (with_reducible exact hbv) | (with_reducible apply Below.setCell) | (with_reducible apply Below.alloc) | (with_reducible apply Below.drew))) <;> first | omega | (simp <;> omega))
end Go.Proofs.Ytdkhanjfncbfnaa
