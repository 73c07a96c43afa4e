import Derived.Test.YtdkhanjfncbfnaaOsCA
namespace Go.Proofs.Ytdkhanjfncbfnaa
open Go Go.RowKit
set_option linter.unusedVariables false
set_option linter.unusedSimpArgs false

set_option maxRecDepth 100000 in
set_option maxHeartbeats 8000000 in
theorem load_ptr (mb : Nat) (k o f : Int) (el : Option Addr) (s so c co n1 r : Nat) (pk po pf : Int) (isp : Bool) (b : Bool) (w : World) (h : AccIs w mb (ptrV k o f) (tP el) (.agg #[.slice (some ⟨s, so, none⟩) n1 r, .slice (some ⟨c, co, none⟩) n1 r]) true) (hnum : ∀ w', Below w.heap.size w w' → Calls Try.prog 47 #[.agg #[.slice (some ⟨s, so, none⟩) n1 r, .slice (some ⟨c, co, none⟩) n1 r]] w' fun e w2 => e = .returned (.tuple #[.agg #[.int .i64 0, .int .i64 pk, .int .i64 po, .int .i64 pf, .bool isp], .bool b]) ∧ Below w'.heap.size w' w2) :
    Calls Try.prog 23 #[.pointer (some ⟨mb, 0, none⟩), ptrV k o f, (tP el)] w fun e w' => e = .returned (.tuple #[.agg #[.int .i64 0, .int .i64 pk, .int .i64 po, .int .i64 pf, .bool isp], .bool b]) ∧ Below w.heap.size w w' := by
  have h' := h
  unfold AccIs ptrV tP at h'
  (try unfold noObj at h')
  have H := Lib.hid h'
  clear h h'
  unfold ptrV tP
  have hnum' := hnum
  (try unfold numV at hnum')
  (try unfold pvV at hnum')
  have HNM := Lib.hid hnum'
  clear hnum hnum'
  go_enter Try.func23, Try.ntmps23
  go_wp2_with fail
  have hb0 : Below w.heap.size w (((w.alloc (.cells #[.int .i64 k, .int .i64 o, .int .i64 f] 38)).alloc (.cells #[.int .i64 2, .int .i64 8, .bool false, .bool false, .pointer el, .int .i64 0, .int .i64 0, .slice none 0 0, .pointer none] 57)).alloc (.cells #[.int .i64 0, .int .i64 0, .int .i64 0, .int .i64 0, .bool false] 74)) := (((Below.refl _ _).alloc (Nat.le_refl _) _).alloc (by simp) _).alloc (by simp; omega) _
  (with_reducible refine (H.out _ hb0).mono ?_)
  rintro e w1 ⟨rfl, hb1⟩
  have HB1 : Hid (Below w.heap.size w w1) := Lib.hid (hb0.trans (hb1.mono hb0.size))
  have hs1 : w.heap.size + 3 ≤ w1.heap.size := by have := hb1.size; simp at this; omega
  have a10 : w1.cell? ⟨w.heap.size + 1, 0, none⟩ = some (.int .i64 2) := by rw [hb1.cell (by simp; try omega), World.cell?_alloc_lt _ _ _ (by simp; try omega)]; exact cell_new _ _ _ _ _ (by simp)
  have a11 : w1.cell? ⟨w.heap.size + 1, 1, none⟩ = some (.int .i64 8) := by rw [hb1.cell (by simp; try omega), World.cell?_alloc_lt _ _ _ (by simp; try omega)]; exact cell_new _ _ _ _ _ (by simp)
  have a12 : w1.cell? ⟨w.heap.size + 1, 2, none⟩ = some (.bool false) := by rw [hb1.cell (by simp; try omega), World.cell?_alloc_lt _ _ _ (by simp; try omega)]; exact cell_new _ _ _ _ _ (by simp)
  have a13 : w1.cell? ⟨w.heap.size + 1, 3, none⟩ = some (.bool false) := by rw [hb1.cell (by simp; try omega), World.cell?_alloc_lt _ _ _ (by simp; try omega)]; exact cell_new _ _ _ _ _ (by simp)
  have a14 : w1.cell? ⟨w.heap.size + 1, 4, none⟩ = some (.pointer el) := by rw [hb1.cell (by simp; try omega), World.cell?_alloc_lt _ _ _ (by simp; try omega)]; exact cell_new _ _ _ _ _ (by simp)
  have a15 : w1.cell? ⟨w.heap.size + 1, 5, none⟩ = some (.int .i64 0) := by rw [hb1.cell (by simp; try omega), World.cell?_alloc_lt _ _ _ (by simp; try omega)]; exact cell_new _ _ _ _ _ (by simp)
  have a16 : w1.cell? ⟨w.heap.size + 1, 6, none⟩ = some (.int .i64 0) := by rw [hb1.cell (by simp; try omega), World.cell?_alloc_lt _ _ _ (by simp; try omega)]; exact cell_new _ _ _ _ _ (by simp)
  have a17 : w1.cell? ⟨w.heap.size + 1, 7, none⟩ = some (.slice none 0 0) := by rw [hb1.cell (by simp; try omega), World.cell?_alloc_lt _ _ _ (by simp; try omega)]; exact cell_new _ _ _ _ _ (by simp)
  have a18 : w1.cell? ⟨w.heap.size + 1, 8, none⟩ = some (.pointer none) := by rw [hb1.cell (by simp; try omega), World.cell?_alloc_lt _ _ _ (by simp; try omega)]; exact cell_new _ _ _ _ _ (by simp)
  have a20 : w1.cell? ⟨w.heap.size + 2, 0, none⟩ = some (.int .i64 0) := by rw [hb1.cell (by simp; try omega)]; exact cell_new _ _ _ _ _ (by simp)
  have a21 : w1.cell? ⟨w.heap.size + 2, 1, none⟩ = some (.int .i64 0) := by rw [hb1.cell (by simp; try omega)]; exact cell_new _ _ _ _ _ (by simp)
  have a22 : w1.cell? ⟨w.heap.size + 2, 2, none⟩ = some (.int .i64 0) := by rw [hb1.cell (by simp; try omega)]; exact cell_new _ _ _ _ _ (by simp)
  have a23 : w1.cell? ⟨w.heap.size + 2, 3, none⟩ = some (.int .i64 0) := by rw [hb1.cell (by simp; try omega)]; exact cell_new _ _ _ _ _ (by simp)
  have a24 : w1.cell? ⟨w.heap.size + 2, 4, none⟩ = some (.bool false) := by rw [hb1.cell (by simp; try omega)]; exact cell_new _ _ _ _ _ (by simp)
  have z0 : w1.frozen? ⟨w.heap.size + 2, 0, none⟩ = false := by rw [hb1.frozen (by simp; try omega)]; exact frozen_new _ _ _ _ _ (by simp)
  have z1 : w1.frozen? ⟨w.heap.size + 2, 1, none⟩ = false := by rw [hb1.frozen (by simp; try omega)]; exact frozen_new _ _ _ _ _ (by simp)
  have z2 : w1.frozen? ⟨w.heap.size + 2, 2, none⟩ = false := by rw [hb1.frozen (by simp; try omega)]; exact frozen_new _ _ _ _ _ (by simp)
  have z3 : w1.frozen? ⟨w.heap.size + 2, 3, none⟩ = false := by rw [hb1.frozen (by simp; try omega)]; exact frozen_new _ _ _ _ _ (by simp)
  have z4 : w1.frozen? ⟨w.heap.size + 2, 4, none⟩ = false := by rw [hb1.frozen (by simp; try omega)]; exact frozen_new _ _ _ _ _ (by simp)
  clear hb0 hb1
  have hl1 : w.heap.size + 1 < w1.heap.size := by omega
  have hn1 : w.heap.size + 1 ≠ w1.heap.size := by omega
  have hl2 : w.heap.size + 2 < w1.heap.size := by omega
  have hn2 : w.heap.size + 2 ≠ w1.heap.size := by omega
  go_wp2_with fail
  have hbA := HB1.out.alloc HB1.out.size (.cells #[.slice (some ⟨s, so, none⟩) n1 r, .slice (some ⟨c, co, none⟩) n1 r] 102)
  (with_reducible refine (HNM.out _ hbA).mono ?_)
  rintro e w2 ⟨rfl, hb2⟩
  have HB2 : Hid (Below w.heap.size w w2) := Lib.hid (hbA.trans (hb2.mono hbA.size))
  have hs2 : w1.heap.size + 1 ≤ w2.heap.size := by have := hb2.size; simp at this; omega
  have b20 : w2.cell? ⟨w.heap.size + 2, 0, none⟩ = some (.int .i64 0) := by rw [hb2.cell (by simp; omega), World.cell?_alloc_lt _ _ _ (by show w.heap.size + 2 < w1.heap.size; omega)]; exact a20
  have b21 : w2.cell? ⟨w.heap.size + 2, 1, none⟩ = some (.int .i64 0) := by rw [hb2.cell (by simp; omega), World.cell?_alloc_lt _ _ _ (by show w.heap.size + 2 < w1.heap.size; omega)]; exact a21
  have b22 : w2.cell? ⟨w.heap.size + 2, 2, none⟩ = some (.int .i64 0) := by rw [hb2.cell (by simp; omega), World.cell?_alloc_lt _ _ _ (by show w.heap.size + 2 < w1.heap.size; omega)]; exact a22
  have b23 : w2.cell? ⟨w.heap.size + 2, 3, none⟩ = some (.int .i64 0) := by rw [hb2.cell (by simp; omega), World.cell?_alloc_lt _ _ _ (by show w.heap.size + 2 < w1.heap.size; omega)]; exact a23
  have b24 : w2.cell? ⟨w.heap.size + 2, 4, none⟩ = some (.bool false) := by rw [hb2.cell (by simp; omega), World.cell?_alloc_lt _ _ _ (by show w.heap.size + 2 < w1.heap.size; omega)]; exact a24
  have y0 : w2.frozen? ⟨w.heap.size + 2, 0, none⟩ = false := by rw [hb2.frozen (by simp; omega), ((Below.refl w1.heap.size w1).alloc (Nat.le_refl _) _).frozen (by show w.heap.size + 2 < w1.heap.size; omega)]; exact z0
  have y1 : w2.frozen? ⟨w.heap.size + 2, 1, none⟩ = false := by rw [hb2.frozen (by simp; omega), ((Below.refl w1.heap.size w1).alloc (Nat.le_refl _) _).frozen (by show w.heap.size + 2 < w1.heap.size; omega)]; exact z1
  have y2 : w2.frozen? ⟨w.heap.size + 2, 2, none⟩ = false := by rw [hb2.frozen (by simp; omega), ((Below.refl w1.heap.size w1).alloc (Nat.le_refl _) _).frozen (by show w.heap.size + 2 < w1.heap.size; omega)]; exact z2
  have y3 : w2.frozen? ⟨w.heap.size + 2, 3, none⟩ = false := by rw [hb2.frozen (by simp; omega), ((Below.refl w1.heap.size w1).alloc (Nat.le_refl _) _).frozen (by show w.heap.size + 2 < w1.heap.size; omega)]; exact z3
  have y4 : w2.frozen? ⟨w.heap.size + 2, 4, none⟩ = false := by rw [hb2.frozen (by simp; omega), ((Below.refl w1.heap.size w1).alloc (Nat.le_refl _) _).frozen (by show w.heap.size + 2 < w1.heap.size; omega)]; exact z4
  clear hbA hb2
  go_wp2_with fail
  have hbv := HB2.out
  refine bodyPost_ret (v := .tuple #[.agg #[.int .i64 0, .int .i64 pk, .int .i64 po, .int .i64 pf, .bool isp], .bool b]) ?_ rfl ⟨rfl, ?_⟩
  · simp [results, Try.results23, go_sem, numV, b20, b21, b22, b23, b24]
  · ((repeat (first | (with_reducible exact hbv) | (with_reducible apply Below.setCell) | (with_reducible apply Below.alloc) | (with_reducible apply Below.drew))) <;> first | omega | (simp <;> omega))

/-- A pointer's eight bytes put there. -/
def putP (C : Nat → Cl) (q n : Nat) (k o f : Int) : Nat → Cl := fun i => if q ≤ i ∧ i < q + n then ptrC k o f (i - q) else C i

set_option maxRecDepth 100000 in
set_option maxHeartbeats 16000000 in
theorem store_ptr (mb : Nat) (k o f : Int) (el : Option Addr) (x pk po pf : Int) (isp : Bool) (s so c q r N : Nat) (C : Nat → Cl) (hN : q + 8 ≤ N) (hNN : N ≤ 1000000000) (w : World)
    (h : AccIs w mb (ptrV k o f) (tP el) (.agg #[.slice (some ⟨s, so, none⟩) 8 r, .slice (some ⟨c, q * 5, none⟩) 8 r]) true) (hC : Cells5 w c 0 N C) (hcl : c < w.heap.size) (hfz : ∀ j, w.frozen? ⟨c, j, none⟩ = false) :
    Calls Try.prog 22 #[.pointer (some ⟨mb, 0, none⟩), ptrV k o f, tP el, .agg #[.int .i64 x, .int .i64 pk, .int .i64 po, .int .i64 pf, .bool isp]] w fun e w' => e = .returned (.bool true) ∧ Turn c w w' ∧ Cells5 w' c 0 N (putP C q 8 pk po pf) := by
  have h' := h
  unfold AccIs ptrV tP at h'
  have H := Lib.hid h'
  have HC := Lib.hid hC
  have HF := Lib.hid hfz
  clear h h' hC hfz
  unfold ptrV tP
  go_enter Try.func22, Try.ntmps22
  go_wp2_with fail
  have hb0 : Below w.heap.size w (((w.alloc (.cells #[.int .i64 k, .int .i64 o, .int .i64 f] 38)).alloc (.cells #[.int .i64 2, .int .i64 8, .bool false, .bool false, .pointer el, .int .i64 0, .int .i64 0, .slice none 0 0, .pointer none] 57)).alloc (.cells #[.int .i64 x, .int .i64 pk, .int .i64 po, .int .i64 pf, .bool isp] 74)) := (((Below.refl _ _).alloc (Nat.le_refl _) _).alloc (by simp) _).alloc (by simp; omega) _
  (with_reducible refine (H.out _ hb0).mono ?_)
  rintro e w1 ⟨rfl, hb1⟩
  have hB1 : Below w.heap.size w w1 := hb0.trans (hb1.mono hb0.size)
  have hs1 : w.heap.size + 3 ≤ w1.heap.size := by have := hb1.size; simp at this; omega
  have t0 : w1.cell? ⟨w.heap.size + 1, 0, none⟩ = some (.int .i64 2) := by rw [hb1.cell (by simp; try omega), World.cell?_alloc_lt _ _ _ (by simp; try omega)]; exact cell_new _ _ _ _ _ (by simp)
  have v1 : w1.cell? ⟨w.heap.size + 1 + 1, 1, none⟩ = some (.int .i64 pk) := by rw [hb1.cell (by simp; try omega)]; exact cell_new _ _ _ _ _ (by simp)
  have v2 : w1.cell? ⟨w.heap.size + 1 + 1, 2, none⟩ = some (.int .i64 po) := by rw [hb1.cell (by simp; try omega)]; exact cell_new _ _ _ _ _ (by simp)
  have v3 : w1.cell? ⟨w.heap.size + 1 + 1, 3, none⟩ = some (.int .i64 pf) := by rw [hb1.cell (by simp; try omega)]; exact cell_new _ _ _ _ _ (by simp)
  have HB1 := Lib.hid hB1
  clear hb0 hb1 hB1
  go_wp2_with fail
  generalize hW : w1.alloc (.cells #[.slice (some ⟨s, so, none⟩) 8 r, .slice (some ⟨c, q * 5, none⟩) 8 r] 102) = W
  have hbW : Below w1.heap.size w1 W := by rw [← hW]; exact (Below.refl _ _).alloc (Nat.le_refl _) _
  have o1 : W.cell? ⟨w1.heap.size, 1, none⟩ = some (.slice (some ⟨c, q * 5, none⟩) 8 r) := by rw [← hW]; exact cell_new _ _ _ _ _ rfl
  have hsW : W.heap.size = w1.heap.size + 1 := by rw [← hW]; simp
  obtain ⟨O, hO⟩ : ∃ O, O = w1.heap.size := ⟨_, rfl⟩
  obtain ⟨V, hV⟩ : ∃ V, V = w.heap.size + 1 + 1 := ⟨_, rfl⟩
  obtain ⟨X, hX⟩ : ∃ X, X = w.heap.size + 1 := ⟨_, rfl⟩
  rw [← hV] at v1 v2 v3
  rw [← hX] at t0
  rw [← hO] at o1
  have T0 : W.cell? ⟨X, 0, none⟩ = some (.int .i64 2) := by rw [hbW.cell (by show X < w1.heap.size; omega)]; exact t0
  have V1 : W.cell? ⟨V, 1, none⟩ = some (.int .i64 pk) := by rw [hbW.cell (by show V < w1.heap.size; omega)]; exact v1
  have V2 : W.cell? ⟨V, 2, none⟩ = some (.int .i64 po) := by rw [hbW.cell (by show V < w1.heap.size; omega)]; exact v2
  have V3 : W.cell? ⟨V, 3, none⟩ = some (.int .i64 pf) := by rw [hbW.cell (by show V < w1.heap.size; omega)]; exact v3
  have hcW : ∀ {p : Nat}, p < w.heap.size → p < W.heap.size := fun h => by omega
  have HBW : Hid (Below w.heap.size w W) := Lib.hid (HB1.out.trans (hbW.mono HB1.out.size))
  have HOW : Hid (O < W.heap.size ∧ V < W.heap.size ∧ X < W.heap.size ∧ c < W.heap.size) := Lib.hid (by omega)
  have hcO : c ≠ O := by omega
  have hcV : c ≠ V := by omega
  have hcX : c ≠ X := by omega
  have HT0 := Lib.hid T0
  have HV0 := Lib.hid (And.intro V1 (And.intro V2 V3))
  have HO1 := Lib.hid o1
  rw [← hV, ← hX, ← hO]
  clear hW hbW hsW hO hV hX v1 v2 v3 t0 T0 V1 V2 V3 o1 hs1 hcW
  go_loopw [24] (fun s24 wr => ∃ n : Nat, s24 = .int .i64 n ∧ n ≤ 8 ∧ Turn c W wr ∧ Hid (Cells5 wr c 0 N (putP C q n pk po pf))) (fun s24 _ => 8 - (intOf s24).toNat)
  case atStart => exact ⟨0, rfl, by omega, Turn.refl _ _, Lib.hid (by
    have : putP C q 0 pk po pf = C := by funext i; unfold putP; rw [if_neg (by omega)]
    rw [this]; exact HC.out.below HBW.out hcl)⟩
  case round =>
    obtain ⟨n, rfl, hn, ht, HCn⟩ := hrel
    have HT := Lib.hid ht
    have hO1 : wr.cell? ⟨O, 1, none⟩ = some (.slice (some ⟨c, q * 5, none⟩) 8 r) := by rw [ht.cell (by exact HOW.out.1) (by exact hcO.symm)]; exact HO1.out
    have hV1 : wr.cell? ⟨V, 1, none⟩ = some (.int .i64 pk) := by rw [ht.cell (by exact HOW.out.2.1) (by exact hcV.symm)]; exact HV0.out.1
    have hV2 : wr.cell? ⟨V, 2, none⟩ = some (.int .i64 po) := by rw [ht.cell (by exact HOW.out.2.1) (by exact hcV.symm)]; exact HV0.out.2.1
    have hV3 : wr.cell? ⟨V, 3, none⟩ = some (.int .i64 pf) := by rw [ht.cell (by exact HOW.out.2.1) (by exact hcV.symm)]; exact HV0.out.2.2
    have hT0 : wr.cell? ⟨X, 0, none⟩ = some (.int .i64 2) := by rw [ht.cell (by exact HOW.out.2.2.1) (by exact hcX.symm)]; exact HT0.out
    clear ht
    by_cases hlt : n < 8
    · obtain ⟨c0, c1, c2, c3, c4⟩ := HCn.out (q + n) (by omega)
      have he : 0 + (q + n) * 5 = q * 5 + n * 5 := by omega
      rw [he] at c0 c1 c2 c3 c4
      obtain ⟨D, hD⟩ : ∃ D, D = putP C q n pk po pf (q + n) := ⟨_, rfl⟩
      rw [← hD] at c0 c1 c2 c3 c4
      have hfz : ∀ j, wr.frozen? ⟨c, j, none⟩ = false := fun j => HT.out.fz j (by rw [HBW.out.frozen (by exact hcl)]; exact HF.out j)
      have f0 := hfz (q * 5 + n * 5)
      have f1 := hfz (q * 5 + n * 5 + 1)
      have f2 := hfz (q * 5 + n * 5 + 2)
      have f3 := hfz (q * 5 + n * 5 + 3)
      have f4 := hfz (q * 5 + n * 5 + 4)
      have hnl : (n : Int) < 8 := by omega
      have SD : Hid (wr.cell? ⟨O, 1, none⟩ = some (.slice (some ⟨c, q * 5, none⟩) 8 r) ∧ wr.cell? ⟨V, 1, none⟩ = some (.int .i64 pk) ∧ wr.cell? ⟨V, 2, none⟩ = some (.int .i64 po) ∧ wr.cell? ⟨V, 3, none⟩ = some (.int .i64 pf)) := Lib.hid ⟨hO1, hV1, hV2, hV3⟩
      have SE : Hid (wr.drew.cell? ⟨O, 1, none⟩ = some (.slice (some ⟨c, q * 5, none⟩) 8 r) ∧ wr.drew.cell? ⟨V, 1, none⟩ = some (.int .i64 pk) ∧ wr.drew.cell? ⟨V, 2, none⟩ = some (.int .i64 po) ∧ wr.drew.cell? ⟨V, 3, none⟩ = some (.int .i64 pf)) := Lib.hid ⟨hO1, hV1, hV2, hV3⟩
      have hcr : c < wr.heap.size := lt_of_cellC c0
      have HC5 : Hid (∀ w5, Below wr.heap.size wr w5 → w5.cell? ⟨c, q * 5 + n * 5, none⟩ = some (.int .u8 D.h) ∧ w5.cell? ⟨c, q * 5 + n * 5 + 1, none⟩ = some (.int .u8 D.b) ∧ w5.cell? ⟨c, q * 5 + n * 5 + 2, none⟩ = some (.int .i64 D.k) ∧ w5.cell? ⟨c, q * 5 + n * 5 + 3, none⟩ = some (.int .i64 D.o) ∧ w5.cell? ⟨c, q * 5 + n * 5 + 4, none⟩ = some (.int .i64 D.f)) := Lib.hid (fun w5 hb => ⟨by rw [hb.cell (by exact hcr)]; exact c0, by rw [hb.cell (by exact hcr)]; exact c1, by rw [hb.cell (by exact hcr)]; exact c2, by rw [hb.cell (by exact hcr)]; exact c3, by rw [hb.cell (by exact hcr)]; exact c4⟩)
      have HF5 : Hid (∀ w5, Below wr.heap.size wr w5 → w5.frozen? ⟨c, q * 5 + n * 5, none⟩ = false ∧ w5.frozen? ⟨c, q * 5 + n * 5 + 1, none⟩ = false ∧ w5.frozen? ⟨c, q * 5 + n * 5 + 2, none⟩ = false ∧ w5.frozen? ⟨c, q * 5 + n * 5 + 3, none⟩ = false ∧ w5.frozen? ⟨c, q * 5 + n * 5 + 4, none⟩ = false) := Lib.hid (fun w5 hb => ⟨by rw [hb.frozen (by exact hcr)]; exact f0, by rw [hb.frozen (by exact hcr)]; exact f1, by rw [hb.frozen (by exact hcr)]; exact f2, by rw [hb.frozen (by exact hcr)]; exact f3, by rw [hb.frozen (by exact hcr)]; exact f4⟩)
      clear hfz hD he
      go_upto_region 8 with fail
      refine wp_region_held_drew (S := (fun w' => w'.cell? ⟨O, 1, none⟩ = some (.slice (some ⟨c, q * 5, none⟩) 8 r) ∧ w'.cell? ⟨V, 1, none⟩ = some (.int .i64 pk) ∧ w'.cell? ⟨V, 2, none⟩ = some (.int .i64 po) ∧ w'.cell? ⟨V, 3, none⟩ = some (.int .i64 pf))) (by kernel_rfl) (by (first | (with_reducible exact SD.out) | (with_reducible exact SE.out))) (fun hHeld => ?_)
      refine takeD (i := 0) (d := 30) (v := ?_) rfl rfl (by kernel_rfl) (by kernel_rfl) (by kernel_rfl) (fun _ _ _ h => h) (Or.inl ⟨by rfl, ?_⟩) (by assumption) ?_
      rotate_left
      · intro w hSw
        (try dsimp only at hSw)
        go_simp
        (try with_reducible rfl)
      (try simp only [Act.put, List.setIfInBounds_toArray, List.set_cons_zero, List.set_cons_succ])
      refine takeD (i := 1) (d := 31) (v := ?_) rfl rfl (by kernel_rfl) (by kernel_rfl) (by kernel_rfl) (fun _ _ _ h => h) (Or.inl ⟨by rfl, ?_⟩) (by assumption) ?_
      rotate_left
      · intro w hSw
        (try dsimp only at hSw)
        go_simp
        (try with_reducible rfl)
      (try simp only [Act.put, List.setIfInBounds_toArray, List.set_cons_zero, List.set_cons_succ])
      refine takeD (i := 2) (d := 32) (v := ?_) rfl rfl (by kernel_rfl) (by kernel_rfl) (by kernel_rfl) (fun _ _ _ h => h) (Or.inl ⟨by rfl, ?_⟩) (by assumption) ?_
      rotate_left
      · intro w hSw
        (try dsimp only at hSw)
        go_simp
        (try with_reducible rfl)
      (try simp only [Act.put, List.setIfInBounds_toArray, List.set_cons_zero, List.set_cons_succ])
      refine takeD (i := 3) (d := 33) (v := ?_) rfl rfl (by kernel_rfl) (by kernel_rfl) (by kernel_rfl) (fun _ _ _ h => h) (Or.inl ⟨by rfl, ?_⟩) (by assumption) ?_
      rotate_left
      · intro w hSw
        (try dsimp only at hSw)
        go_simp
        (try with_reducible rfl)
      (try simp only [Act.put, List.setIfInBounds_toArray, List.set_cons_zero, List.set_cons_succ])
      refine takeD (i := 4) (d := 34) (v := ?_) rfl rfl (by kernel_rfl) (by kernel_rfl) (by kernel_rfl) (fun _ _ _ h => h) (Or.inl ⟨by rfl, ?_⟩) (by assumption) ?_
      rotate_left
      · intro w hSw
        (try dsimp only at hSw)
        go_simp
        (try with_reducible rfl)
      (try simp only [Act.put, List.setIfInBounds_toArray, List.set_cons_zero, List.set_cons_succ])
      refine takeD (i := 5) (d := 35) (v := ?_) rfl rfl (by kernel_rfl) (by kernel_rfl) (by kernel_rfl) (fun _ _ _ h => h) (Or.inl ⟨by rfl, ?_⟩) (by assumption) ?_
      rotate_left
      · intro w hSw
        (try dsimp only at hSw)
        go_simp
        (try with_reducible rfl)
      (try simp only [Act.put, List.setIfInBounds_toArray, List.set_cons_zero, List.set_cons_succ])
      refine wpAnyH_ready (rs := [6]) (by kernel_rfl) (by simp) ?_
      refine AllReadyH.cons rfl (fun K hK => ?_) AllReadyH.nil
      go_simp
      (with_reducible refine (pointerByte_any pk po pf n hlt _).mono ?_)
      rintro e w5 ⟨rfl, hb5⟩
      have HB5 := Lib.hid (show Below wr.heap.size wr w5 from ((Below.refl _ _).drew).trans hb5)
      clear hb5
      have HDD := SE.out
      clear SD SE c0 c1 c2 c3 c4 f0 f1 f2 f3 f4
      have SD : Hid (w5.cell? ⟨O, 1, none⟩ = some (.slice (some ⟨c, q * 5, none⟩) 8 r) ∧ w5.cell? ⟨V, 1, none⟩ = some (.int .i64 pk) ∧ w5.cell? ⟨V, 2, none⟩ = some (.int .i64 po) ∧ w5.cell? ⟨V, 3, none⟩ = some (.int .i64 pf)) := Lib.hid (by
        obtain ⟨q0, q1, q2, q3⟩ := HDD
        exact ⟨by rw [HB5.out.cell (by exact lt_of_cellC q0)]; exact q0, by rw [HB5.out.cell (by exact lt_of_cellC q1)]; exact q1, by rw [HB5.out.cell (by exact lt_of_cellC q1)]; exact q2, by rw [HB5.out.cell (by exact lt_of_cellC q1)]; exact q3⟩)
      clear HDD
      have SE : Hid (w5.drew.cell? ⟨O, 1, none⟩ = some (.slice (some ⟨c, q * 5, none⟩) 8 r) ∧ w5.drew.cell? ⟨V, 1, none⟩ = some (.int .i64 pk) ∧ w5.drew.cell? ⟨V, 2, none⟩ = some (.int .i64 po) ∧ w5.drew.cell? ⟨V, 3, none⟩ = some (.int .i64 pf)) := Lib.hid SD.out
      obtain ⟨c0, c1, c2, c3, c4⟩ := HC5.out w5 HB5.out
      obtain ⟨f0, f1, f2, f3, f4⟩ := HF5.out w5 HB5.out
      refine hK.out _ _ ?_ (fun hHeld2 => ?_)
      · (first | (with_reducible exact SD.out) | (with_reducible exact SE.out))
      clear hHeld hK K
      have hHeld := hHeld2
      clear hHeld2
      (try simp only [Act.put, List.setIfInBounds_toArray, List.set_cons_zero, List.set_cons_succ])
      refine takeD (i := 7) (d := 37) (v := ?_) rfl rfl (by kernel_rfl) (by kernel_rfl) (by kernel_rfl) (fun _ _ _ h => h) (Or.inl ⟨by rfl, ?_⟩) (by assumption) ?_
      rotate_left
      · intro w hSw
        (try dsimp only at hSw)
        go_simp
        (try with_reducible rfl)
      (try simp only [Act.put, List.setIfInBounds_toArray, List.set_cons_zero, List.set_cons_succ])
      refine wpAnyH_ready (rs := [8]) (by kernel_rfl) (by simp) ?_
      refine AllReadyH.cons rfl (fun K hK => ?_) AllReadyH.nil
      go_simp
      refine hK.out _ _ ?_ (fun hHeld2 => ?_)
      · (refine ⟨?_, ?_, ?_, ?_⟩ <;> (try rw [drew_cell]) <;> (rw [World.cell?_setCell_far _ _ _ _ (by assumption), World.cell?_setCell_far _ _ _ _ (by assumption), World.cell?_setCell_far _ _ _ _ (by assumption), World.cell?_setCell_far _ _ _ _ (by assumption), World.cell?_setCell_far _ _ _ _ (by assumption)]; (first | (with_reducible exact SD.out.1) | (with_reducible exact SD.out.2.1) | (with_reducible exact SD.out.2.2.1) | (with_reducible exact SD.out.2.2.2))))
      clear hHeld hK K
      have hHeld := hHeld2
      clear hHeld2
      (try simp only [Act.put, List.setIfInBounds_toArray, List.set_cons_zero, List.set_cons_succ])
      refine wpAnyH_done (by kernel_rfl) ?_ _
      clear hHeld
      go_wp2_with fail
      go_roundw
      case rel =>
        change ∃ m : Nat, _ = Value.int .i64 (m : Int) ∧ m ≤ 8 ∧ Turn c W (put5 w5 c (q * 5 + n * 5) (ptrC pk po pf n)) ∧ Hid (Cells5 (put5 w5 c (q * 5 + n * 5) (ptrC pk po pf n)) c 0 N (putP C q m pk po pf))
        refine ⟨n + 1, by go_num, by omega, (HT.out.trans (Turn.of HB5.out (lt_of_cellC (HC5.out wr (Below.refl _ _)).1))).trans (Turn.put5 c w5 (q * 5 + n * 5) (ptrC pk po pf n)), Lib.hid ?_⟩
        have hput := (HCn.out.below HB5.out (lt_of_cellC (HC5.out wr (Below.refl _ _)).1)).put (q + n) (q * 5 + n * 5) (by omega) (by omega) (ptrC pk po pf n)
        have hfun : (fun i => if i = q + n then ptrC pk po pf n else putP C q n pk po pf i) = putP C q (n + 1) pk po pf := by
          funext i
          unfold putP
          by_cases h1 : i = q + n
          · subst h1
            rw [if_pos rfl, if_pos (by omega), show q + n - q = n from by omega]
          · rw [if_neg h1]
            by_cases h2 : q ≤ i ∧ i < q + n
            · rw [if_pos h2, if_pos (by omega)]
            · rw [if_neg h2, if_neg (by omega)]
        rw [hfun] at hput
        intro i hi
        have := hput i hi
        simp only [drew_cell] at this
        exact this
      case measure => simp [intOf]; omega
    · obtain rfl : n = 8 := by omega
      go_wp2_with fail
      go_ret
      exact ⟨rfl, (Turn.of HBW.out hcl).trans HT.out, HCn.out⟩
end Go.Proofs.Ytdkhanjfncbfnaa
