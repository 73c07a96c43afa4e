import Derived.Test.YtdkhanjfncbfnaaOsCD
namespace Go.Proofs.Ytdkhanjfncbfnaa
open Go Go.RowKit
set_option linter.unusedVariables false
set_option linter.unusedSimpArgs false

set_option maxRecDepth 100000 in
set_option maxHeartbeats 8000000 in
theorem copy_yes (mb : Nat) (k o f k2 o2 f2 : Int) (n : Nat) (hn : n ≤ 1000000) (s so c q r : Nat) (s2 so2 c2 co2 r2 : Nat) (w : World) (h1 : BytesIs w mb (ptrV k o f) n (.agg #[.slice (some ⟨s, so, none⟩) n r, .slice (some ⟨c, q * 5, none⟩) n r]) true) (h2 : BytesIs w mb (ptrV k2 o2 f2) n (.agg #[.slice (some ⟨s2, so2, none⟩) n r2, .slice (some ⟨c2, co2, none⟩) n r2]) true) (hff : f.tmod 8 = f2.tmod 8) (L L2 : Nat → Bool) (hl : Labs w s so n L) (hl2 : Labs w s2 so2 n L2) (hs : s < w.heap.size) (hs2 : s2 < w.heap.size) (hL : ∀ i, i < n → L i = L2 i) (N : Nat) (C D : Nat → Cl) (hN : q + n ≤ N) (hC : Cells5 w c 0 N C) (hcl : c < w.heap.size) (hfz : ∀ j, w.frozen? ⟨c, j, none⟩ = false) (hD : Cells5 w c2 co2 n D) (hcl2 : c2 < w.heap.size) :
    Calls Try.prog 29 #[.pointer (some ⟨mb, 0, none⟩), ptrV k o f, ptrV k2 o2 f2, .int .i64 n] w fun e w' => e = .returned (.bool true) ∧ Turn c w w' ∧ Cells5 w' c 0 N (copyC C q n D) := by
  unfold BytesIs ptrV at h1 h2
  have H1 := Lib.hid h1
  have H2 := Lib.hid h2
  have HEQ := Lib.hid (fun (w' : World) (hb : Below w.heap.size w w') => equal_any s so n r s2 so2 r2 L L2 (by omega) true ⟨fun _ => hL, fun _ => rfl⟩ w' (hl.below hb hs) (hl2.below hb hs2) (Nat.lt_of_lt_of_le hs hb.size) (Nat.lt_of_lt_of_le hs2 hb.size))
  clear hl hl2 hL hs hs2
  have HC := Lib.hid hC
  have HD := Lib.hid hD
  have HF := Lib.hid hfz
  clear hC hD hfz
  clear h1 h2
  unfold ptrV
  go_enter Try.func29, Try.ntmps29
  go_wp2_with fail
  obtain ⟨W0, hW0⟩ : ∃ W0, W0 = (w.alloc (.cells #[.int .i64 k, .int .i64 o, .int .i64 f] 38)).alloc (.cells #[.int .i64 k2, .int .i64 o2, .int .i64 f2] 38) := ⟨_, rfl⟩
  obtain ⟨P, hP⟩ : ∃ P, P = w.heap.size := ⟨_, rfl⟩
  obtain ⟨Q, hQ⟩ : ∃ Q, Q = w.heap.size + 1 := ⟨_, rfl⟩
  rw [← hW0, ← hQ]
  (try rw [← hP])
  have hb0 : Below w.heap.size w W0 := by rw [hW0]; exact ((Below.refl _ _).alloc (Nat.le_refl _) _).alloc (by simp) _
  have p0 : W0.cell? ⟨P, 0, none⟩ = some (.int .i64 k) := by rw [hW0, hP, World.cell?_alloc_lt _ _ _ (by simp)]; exact cell_new _ _ _ _ _ rfl
  have p1 : W0.cell? ⟨P, 1, none⟩ = some (.int .i64 o) := by rw [hW0, hP, World.cell?_alloc_lt _ _ _ (by simp)]; exact cell_new _ _ _ _ _ rfl
  have p2 : W0.cell? ⟨P, 2, none⟩ = some (.int .i64 f) := by rw [hW0, hP, World.cell?_alloc_lt _ _ _ (by simp)]; exact cell_new _ _ _ _ _ rfl
  have q0 : W0.cell? ⟨Q, 0, none⟩ = some (.int .i64 k2) := by rw [hW0, hQ]; exact cell_new _ _ _ _ _ (by simp)
  have q1 : W0.cell? ⟨Q, 1, none⟩ = some (.int .i64 o2) := by rw [hW0, hQ]; exact cell_new _ _ _ _ _ (by simp)
  have q2 : W0.cell? ⟨Q, 2, none⟩ = some (.int .i64 f2) := by rw [hW0, hQ]; exact cell_new _ _ _ _ _ (by simp)
  have hPl : P < W0.heap.size := lt_of_cellC p0
  have hQl : Q < W0.heap.size := lt_of_cellC q0
  have HPQ := Lib.hid (show (w.heap.size ≤ P ∧ w.heap.size ≤ Q ∧ P ≠ Q) from by omega)
  clear hW0 hP hQ
  (with_reducible refine (H1.out _ hb0).mono ?_)
  rintro e w1 ⟨rfl, hb1⟩
  have hb01 : Below w.heap.size w w1 := hb0.trans (hb1.mono hb0.size)
  have p0' : w1.cell? ⟨P, 0, none⟩ = some (.int .i64 k) := by rw [hb1.cell (by exact hPl)]; exact p0
  have p1' : w1.cell? ⟨P, 1, none⟩ = some (.int .i64 o) := by rw [hb1.cell (by exact hPl)]; exact p1
  have p2' : w1.cell? ⟨P, 2, none⟩ = some (.int .i64 f) := by rw [hb1.cell (by exact hPl)]; exact p2
  have q0' : w1.cell? ⟨Q, 0, none⟩ = some (.int .i64 k2) := by rw [hb1.cell (by exact hQl)]; exact q0
  have q1' : w1.cell? ⟨Q, 1, none⟩ = some (.int .i64 o2) := by rw [hb1.cell (by exact hQl)]; exact q1
  have q2' : w1.cell? ⟨Q, 2, none⟩ = some (.int .i64 f2) := by rw [hb1.cell (by exact hQl)]; exact q2
  have hPl1 : P < w1.heap.size := lt_of_cellC p0'
  have hQl1 : Q < w1.heap.size := lt_of_cellC q0'
  clear p0 p1 p2 q0 q1 q2 hPl hQl hb0 hb1
  go_upto_region 2 with fail
  obtain ⟨W2, hW2⟩ : ∃ W2, W2 = w1.alloc (.cells #[.slice (some ⟨s, so, none⟩) n r, .slice (some ⟨c, q * 5, none⟩) n r] 102) := ⟨_, rfl⟩
  obtain ⟨A, hA⟩ : ∃ A, A = w1.heap.size := ⟨_, rfl⟩
  rw [← hW2, ← hA]
  have hb12 : Below w1.heap.size w1 W2 := by rw [hW2]; exact (Below.refl _ _).alloc (Nat.le_refl _) _
  have hb02 : Below w.heap.size w W2 := hb01.trans (hb12.mono hb01.size)
  have x0 : W2.cell? ⟨A, 0, none⟩ = some (.slice (some ⟨s, so, none⟩) n r) := by rw [hW2, hA]; exact cell_new _ _ _ _ _ rfl
  have x1 : W2.cell? ⟨A, 1, none⟩ = some (.slice (some ⟨c, q * 5, none⟩) n r) := by rw [hW2, hA]; exact cell_new _ _ _ _ _ rfl
  have p0 : W2.cell? ⟨P, 0, none⟩ = some (.int .i64 k) := by rw [hb12.cell (by exact hPl1)]; exact p0'
  have p1 : W2.cell? ⟨P, 1, none⟩ = some (.int .i64 o) := by rw [hb12.cell (by exact hPl1)]; exact p1'
  have p2 : W2.cell? ⟨P, 2, none⟩ = some (.int .i64 f) := by rw [hb12.cell (by exact hPl1)]; exact p2'
  have q0 : W2.cell? ⟨Q, 0, none⟩ = some (.int .i64 k2) := by rw [hb12.cell (by exact hQl1)]; exact q0'
  have q1 : W2.cell? ⟨Q, 1, none⟩ = some (.int .i64 o2) := by rw [hb12.cell (by exact hQl1)]; exact q1'
  have q2 : W2.cell? ⟨Q, 2, none⟩ = some (.int .i64 f2) := by rw [hb12.cell (by exact hQl1)]; exact q2'
  have HPA := Lib.hid (show (A ≠ P ∧ A ≠ Q ∧ w.heap.size ≤ A) from by have := hb01.size; omega)
  clear p0' p1' p2' q0' q1' q2' hPl1 hQl1 hb12 hW2 hA
  go_wp2_with fail
  (with_reducible refine (H2.out _ hb02).mono ?_)
  rintro e w3 ⟨rfl, hb3⟩
  have HB3 : Hid (Below w.heap.size w w3) := Lib.hid (hb02.trans (hb3.mono hb02.size))
  have p2' : w3.cell? ⟨P, 2, none⟩ = some (.int .i64 f) := by rw [hb3.cell (by exact lt_of_cellC p2)]; exact p2
  have q2' : w3.cell? ⟨Q, 2, none⟩ = some (.int .i64 f2) := by rw [hb3.cell (by exact lt_of_cellC q2)]; exact q2
  have x0' : w3.cell? ⟨A, 0, none⟩ = some (.slice (some ⟨s, so, none⟩) n r) := by rw [hb3.cell (by exact lt_of_cellC x0)]; exact x0
  have x1' : w3.cell? ⟨A, 1, none⟩ = some (.slice (some ⟨c, q * 5, none⟩) n r) := by rw [hb3.cell (by exact lt_of_cellC x0)]; exact x1
  clear p0 p1 p2 q0 q1 q2 x0 x1 hb3 hb01 hb02
  go_upto_region 3 with fail
  obtain ⟨W4, hW4⟩ : ∃ W4, W4 = w3.alloc (.cells #[.slice (some ⟨s2, so2, none⟩) n r2, .slice (some ⟨c2, co2, none⟩) n r2] 102) := ⟨_, rfl⟩
  obtain ⟨B, hB⟩ : ∃ B, B = w3.heap.size := ⟨_, rfl⟩
  rw [← hW4, ← hB]
  have hb34 : Below w3.heap.size w3 W4 := by rw [hW4]; exact (Below.refl _ _).alloc (Nat.le_refl _) _
  have HB4 : Hid (Below w.heap.size w W4) := Lib.hid (HB3.out.trans (hb34.mono HB3.out.size))
  have y0 : W4.cell? ⟨B, 0, none⟩ = some (.slice (some ⟨s2, so2, none⟩) n r2) := by rw [hW4, hB]; exact cell_new _ _ _ _ _ rfl
  have y1 : W4.cell? ⟨B, 1, none⟩ = some (.slice (some ⟨c2, co2, none⟩) n r2) := by rw [hW4, hB]; exact cell_new _ _ _ _ _ rfl
  have p2 : W4.cell? ⟨P, 2, none⟩ = some (.int .i64 f) := by rw [hb34.cell (by exact lt_of_cellC p2')]; exact p2'
  have q2 : W4.cell? ⟨Q, 2, none⟩ = some (.int .i64 f2) := by rw [hb34.cell (by exact lt_of_cellC q2')]; exact q2'
  have x0 : W4.cell? ⟨A, 0, none⟩ = some (.slice (some ⟨s, so, none⟩) n r) := by rw [hb34.cell (by exact lt_of_cellC x0')]; exact x0'
  have x1 : W4.cell? ⟨A, 1, none⟩ = some (.slice (some ⟨c, q * 5, none⟩) n r) := by rw [hb34.cell (by exact lt_of_cellC x0')]; exact x1'
  have HBA := Lib.hid (show B ≠ A ∧ w.heap.size ≤ B ∧ w.heap.size ≤ A from by have := HB3.out.size; have := lt_of_cellC x0'; have := HPA.out; omega)
  clear p2' q2' x0' x1' hb34 hW4 hB
  go_wp2_with fail
  (with_reducible refine (HEQ.out _ HB4.out).mono ?_)
  rintro e w5 ⟨rfl, hb5⟩
  have HB5 : Hid (Below w.heap.size w w5) := Lib.hid (HB4.out.trans (hb5.mono HB4.out.size))
  have x1' : w5.cell? ⟨A, 1, none⟩ = some (.slice (some ⟨c, q * 5, none⟩) n r) := by rw [hb5.cell (by exact lt_of_cellC x0)]; exact x1
  have y1' : w5.cell? ⟨B, 1, none⟩ = some (.slice (some ⟨c2, co2, none⟩) n r2) := by rw [hb5.cell (by exact lt_of_cellC y0)]; exact y1
  have hC5 := HC.out.below HB5.out hcl
  have hD5 := HD.out.below HB5.out hcl2
  have hrow := run_copy5 w5 c (q * 5) n r ⟨c2, co2, none⟩ r2 (row5 D n) (row5_len D n) (fun j v hv => by
    unfold row5 at hv
    rw [List.getElem?_map] at hv
    obtain ⟨i, hi, rfl⟩ := Option.map_eq_some_iff.1 hv
    obtain ⟨hjl, rfl⟩ := List.getElem?_eq_some_iff.1 hi
    simp only [List.length_range] at hjl
    simp only [List.getElem_range]
    rw [show (⟨c2, co2, none⟩ : Addr).add j = ⟨c2, co2 + j, none⟩ from by unfold Addr.add; split <;> simp_all]
    exact cells5_flat hD5 j hjl) (fun j hj => by
    rw [row5_len] at hj
    have := cells5_flat hC5 (q * 5 + j) (by omega)
    rw [Nat.zero_add] at this
    rw [this]; rfl) (fun j _ => by rw [HB5.out.frozen (by exact hcl)]; exact HF.out _) (row5_one D n)
  have HDN := Lib.hid (Cells5.copied hC5 q n hN D)
  have HTN : Hid (Turn c w (w5.setCells c (q * 5) (row5 D n))) := Lib.hid ((Turn.of HB5.out hcl).trans (Turn.setCells c _ _ _))
  clear p2 q2 x0 x1 y0 y1 hb5 hC5 hD5
  generalize row5 D n = RW at hrow HDN HTN
  go_wp2_with fail
  go_ret
  exact ⟨rfl, HTN.out, HDN.out⟩

set_option maxRecDepth 100000 in
set_option maxHeartbeats 8000000 in
theorem copy_lab (mb : Nat) (k o f k2 o2 f2 : Int) (n : Nat) (hn : n ≤ 1000000) (s so c q r : Nat) (s2 so2 c2 co2 r2 : Nat) (w : World) (h1 : BytesIs w mb (ptrV k o f) n (.agg #[.slice (some ⟨s, so, none⟩) n r, .slice (some ⟨c, q * 5, none⟩) n r]) true) (h2 : BytesIs w mb (ptrV k2 o2 f2) n (.agg #[.slice (some ⟨s2, so2, none⟩) n r2, .slice (some ⟨c2, co2, none⟩) n r2]) true) (hff : f.tmod 8 = f2.tmod 8) (L L2 : Nat → Bool) (hl : Labs w s so n L) (hl2 : Labs w s2 so2 n L2) (hs : s < w.heap.size) (hs2 : s2 < w.heap.size) (hL : ¬ ∀ i, i < n → L i = L2 i) :
    Calls Try.prog 29 #[.pointer (some ⟨mb, 0, none⟩), ptrV k o f, ptrV k2 o2 f2, .int .i64 n] w fun e w' => e = .returned (.bool false) ∧ Below w.heap.size w w' := by
  unfold BytesIs ptrV at h1 h2
  have H1 := Lib.hid h1
  have H2 := Lib.hid h2
  have HEQ := Lib.hid (fun (w' : World) (hb : Below w.heap.size w w') => equal_any s so n r s2 so2 r2 L L2 (by omega) false ⟨(fun h => absurd h (by simp)), (fun h => absurd h hL)⟩ w' (hl.below hb hs) (hl2.below hb hs2) (Nat.lt_of_lt_of_le hs hb.size) (Nat.lt_of_lt_of_le hs2 hb.size))
  clear hl hl2 hL hs hs2
  clear h1 h2
  unfold ptrV
  go_enter Try.func29, Try.ntmps29
  go_wp2_with fail
  obtain ⟨W0, hW0⟩ : ∃ W0, W0 = (w.alloc (.cells #[.int .i64 k, .int .i64 o, .int .i64 f] 38)).alloc (.cells #[.int .i64 k2, .int .i64 o2, .int .i64 f2] 38) := ⟨_, rfl⟩
  obtain ⟨P, hP⟩ : ∃ P, P = w.heap.size := ⟨_, rfl⟩
  obtain ⟨Q, hQ⟩ : ∃ Q, Q = w.heap.size + 1 := ⟨_, rfl⟩
  rw [← hW0, ← hQ]
  (try rw [← hP])
  have hb0 : Below w.heap.size w W0 := by rw [hW0]; exact ((Below.refl _ _).alloc (Nat.le_refl _) _).alloc (by simp) _
  have p0 : W0.cell? ⟨P, 0, none⟩ = some (.int .i64 k) := by rw [hW0, hP, World.cell?_alloc_lt _ _ _ (by simp)]; exact cell_new _ _ _ _ _ rfl
  have p1 : W0.cell? ⟨P, 1, none⟩ = some (.int .i64 o) := by rw [hW0, hP, World.cell?_alloc_lt _ _ _ (by simp)]; exact cell_new _ _ _ _ _ rfl
  have p2 : W0.cell? ⟨P, 2, none⟩ = some (.int .i64 f) := by rw [hW0, hP, World.cell?_alloc_lt _ _ _ (by simp)]; exact cell_new _ _ _ _ _ rfl
  have q0 : W0.cell? ⟨Q, 0, none⟩ = some (.int .i64 k2) := by rw [hW0, hQ]; exact cell_new _ _ _ _ _ (by simp)
  have q1 : W0.cell? ⟨Q, 1, none⟩ = some (.int .i64 o2) := by rw [hW0, hQ]; exact cell_new _ _ _ _ _ (by simp)
  have q2 : W0.cell? ⟨Q, 2, none⟩ = some (.int .i64 f2) := by rw [hW0, hQ]; exact cell_new _ _ _ _ _ (by simp)
  have hPl : P < W0.heap.size := lt_of_cellC p0
  have hQl : Q < W0.heap.size := lt_of_cellC q0
  have HPQ := Lib.hid (show (w.heap.size ≤ P ∧ w.heap.size ≤ Q ∧ P ≠ Q) from by omega)
  clear hW0 hP hQ
  (with_reducible refine (H1.out _ hb0).mono ?_)
  rintro e w1 ⟨rfl, hb1⟩
  have hb01 : Below w.heap.size w w1 := hb0.trans (hb1.mono hb0.size)
  have p0' : w1.cell? ⟨P, 0, none⟩ = some (.int .i64 k) := by rw [hb1.cell (by exact hPl)]; exact p0
  have p1' : w1.cell? ⟨P, 1, none⟩ = some (.int .i64 o) := by rw [hb1.cell (by exact hPl)]; exact p1
  have p2' : w1.cell? ⟨P, 2, none⟩ = some (.int .i64 f) := by rw [hb1.cell (by exact hPl)]; exact p2
  have q0' : w1.cell? ⟨Q, 0, none⟩ = some (.int .i64 k2) := by rw [hb1.cell (by exact hQl)]; exact q0
  have q1' : w1.cell? ⟨Q, 1, none⟩ = some (.int .i64 o2) := by rw [hb1.cell (by exact hQl)]; exact q1
  have q2' : w1.cell? ⟨Q, 2, none⟩ = some (.int .i64 f2) := by rw [hb1.cell (by exact hQl)]; exact q2
  have hPl1 : P < w1.heap.size := lt_of_cellC p0'
  have hQl1 : Q < w1.heap.size := lt_of_cellC q0'
  clear p0 p1 p2 q0 q1 q2 hPl hQl hb0 hb1
  go_upto_region 2 with fail
  obtain ⟨W2, hW2⟩ : ∃ W2, W2 = w1.alloc (.cells #[.slice (some ⟨s, so, none⟩) n r, .slice (some ⟨c, q * 5, none⟩) n r] 102) := ⟨_, rfl⟩
  obtain ⟨A, hA⟩ : ∃ A, A = w1.heap.size := ⟨_, rfl⟩
  rw [← hW2, ← hA]
  have hb12 : Below w1.heap.size w1 W2 := by rw [hW2]; exact (Below.refl _ _).alloc (Nat.le_refl _) _
  have hb02 : Below w.heap.size w W2 := hb01.trans (hb12.mono hb01.size)
  have x0 : W2.cell? ⟨A, 0, none⟩ = some (.slice (some ⟨s, so, none⟩) n r) := by rw [hW2, hA]; exact cell_new _ _ _ _ _ rfl
  have x1 : W2.cell? ⟨A, 1, none⟩ = some (.slice (some ⟨c, q * 5, none⟩) n r) := by rw [hW2, hA]; exact cell_new _ _ _ _ _ rfl
  have p0 : W2.cell? ⟨P, 0, none⟩ = some (.int .i64 k) := by rw [hb12.cell (by exact hPl1)]; exact p0'
  have p1 : W2.cell? ⟨P, 1, none⟩ = some (.int .i64 o) := by rw [hb12.cell (by exact hPl1)]; exact p1'
  have p2 : W2.cell? ⟨P, 2, none⟩ = some (.int .i64 f) := by rw [hb12.cell (by exact hPl1)]; exact p2'
  have q0 : W2.cell? ⟨Q, 0, none⟩ = some (.int .i64 k2) := by rw [hb12.cell (by exact hQl1)]; exact q0'
  have q1 : W2.cell? ⟨Q, 1, none⟩ = some (.int .i64 o2) := by rw [hb12.cell (by exact hQl1)]; exact q1'
  have q2 : W2.cell? ⟨Q, 2, none⟩ = some (.int .i64 f2) := by rw [hb12.cell (by exact hQl1)]; exact q2'
  have HPA := Lib.hid (show (A ≠ P ∧ A ≠ Q ∧ w.heap.size ≤ A) from by have := hb01.size; omega)
  clear p0' p1' p2' q0' q1' q2' hPl1 hQl1 hb12 hW2 hA
  go_wp2_with fail
  (with_reducible refine (H2.out _ hb02).mono ?_)
  rintro e w3 ⟨rfl, hb3⟩
  have HB3 : Hid (Below w.heap.size w w3) := Lib.hid (hb02.trans (hb3.mono hb02.size))
  have p2' : w3.cell? ⟨P, 2, none⟩ = some (.int .i64 f) := by rw [hb3.cell (by exact lt_of_cellC p2)]; exact p2
  have q2' : w3.cell? ⟨Q, 2, none⟩ = some (.int .i64 f2) := by rw [hb3.cell (by exact lt_of_cellC q2)]; exact q2
  have x0' : w3.cell? ⟨A, 0, none⟩ = some (.slice (some ⟨s, so, none⟩) n r) := by rw [hb3.cell (by exact lt_of_cellC x0)]; exact x0
  have x1' : w3.cell? ⟨A, 1, none⟩ = some (.slice (some ⟨c, q * 5, none⟩) n r) := by rw [hb3.cell (by exact lt_of_cellC x0)]; exact x1
  clear p0 p1 p2 q0 q1 q2 x0 x1 hb3 hb01 hb02
  go_upto_region 3 with fail
  obtain ⟨W4, hW4⟩ : ∃ W4, W4 = w3.alloc (.cells #[.slice (some ⟨s2, so2, none⟩) n r2, .slice (some ⟨c2, co2, none⟩) n r2] 102) := ⟨_, rfl⟩
  obtain ⟨B, hB⟩ : ∃ B, B = w3.heap.size := ⟨_, rfl⟩
  rw [← hW4, ← hB]
  have hb34 : Below w3.heap.size w3 W4 := by rw [hW4]; exact (Below.refl _ _).alloc (Nat.le_refl _) _
  have HB4 : Hid (Below w.heap.size w W4) := Lib.hid (HB3.out.trans (hb34.mono HB3.out.size))
  have y0 : W4.cell? ⟨B, 0, none⟩ = some (.slice (some ⟨s2, so2, none⟩) n r2) := by rw [hW4, hB]; exact cell_new _ _ _ _ _ rfl
  have y1 : W4.cell? ⟨B, 1, none⟩ = some (.slice (some ⟨c2, co2, none⟩) n r2) := by rw [hW4, hB]; exact cell_new _ _ _ _ _ rfl
  have p2 : W4.cell? ⟨P, 2, none⟩ = some (.int .i64 f) := by rw [hb34.cell (by exact lt_of_cellC p2')]; exact p2'
  have q2 : W4.cell? ⟨Q, 2, none⟩ = some (.int .i64 f2) := by rw [hb34.cell (by exact lt_of_cellC q2')]; exact q2'
  have x0 : W4.cell? ⟨A, 0, none⟩ = some (.slice (some ⟨s, so, none⟩) n r) := by rw [hb34.cell (by exact lt_of_cellC x0')]; exact x0'
  have x1 : W4.cell? ⟨A, 1, none⟩ = some (.slice (some ⟨c, q * 5, none⟩) n r) := by rw [hb34.cell (by exact lt_of_cellC x0')]; exact x1'
  have HBA := Lib.hid (show B ≠ A ∧ w.heap.size ≤ B ∧ w.heap.size ≤ A from by have := HB3.out.size; have := lt_of_cellC x0'; have := HPA.out; omega)
  clear p2' q2' x0' x1' hb34 hW4 hB
  go_wp2_with fail
  (with_reducible refine (HEQ.out _ HB4.out).mono ?_)
  rintro e w5 ⟨rfl, hb5⟩
  have HB5 : Hid (Below w.heap.size w w5) := Lib.hid (HB4.out.trans (hb5.mono HB4.out.size))
  clear p2 q2 x0 x1 y0 y1 hb5
  go_wp2_with fail
  go_ret
  exact ⟨rfl, HB5.out⟩

set_option maxRecDepth 100000 in
set_option maxHeartbeats 8000000 in
theorem copy_off (mb : Nat) (k o f k2 o2 f2 : Int) (n : Nat) (hn : n ≤ 1000000) (s so c q r : Nat) (s2 so2 c2 co2 r2 : Nat) (w : World) (h1 : BytesIs w mb (ptrV k o f) n (.agg #[.slice (some ⟨s, so, none⟩) n r, .slice (some ⟨c, q * 5, none⟩) n r]) true) (h2 : BytesIs w mb (ptrV k2 o2 f2) n (.agg #[.slice (some ⟨s2, so2, none⟩) n r2, .slice (some ⟨c2, co2, none⟩) n r2]) true) (hff : ¬ f.tmod 8 = f2.tmod 8) :
    Calls Try.prog 29 #[.pointer (some ⟨mb, 0, none⟩), ptrV k o f, ptrV k2 o2 f2, .int .i64 n] w fun e w' => e = .returned (.bool false) ∧ Below w.heap.size w w' := by
  unfold BytesIs ptrV at h1 h2
  have H1 := Lib.hid h1
  have H2 := Lib.hid h2
  clear h1 h2
  unfold ptrV
  go_enter Try.func29, Try.ntmps29
  go_wp2_with fail
  obtain ⟨W0, hW0⟩ : ∃ W0, W0 = (w.alloc (.cells #[.int .i64 k, .int .i64 o, .int .i64 f] 38)).alloc (.cells #[.int .i64 k2, .int .i64 o2, .int .i64 f2] 38) := ⟨_, rfl⟩
  obtain ⟨P, hP⟩ : ∃ P, P = w.heap.size := ⟨_, rfl⟩
  obtain ⟨Q, hQ⟩ : ∃ Q, Q = w.heap.size + 1 := ⟨_, rfl⟩
  rw [← hW0, ← hQ]
  (try rw [← hP])
  have hb0 : Below w.heap.size w W0 := by rw [hW0]; exact ((Below.refl _ _).alloc (Nat.le_refl _) _).alloc (by simp) _
  have p0 : W0.cell? ⟨P, 0, none⟩ = some (.int .i64 k) := by rw [hW0, hP, World.cell?_alloc_lt _ _ _ (by simp)]; exact cell_new _ _ _ _ _ rfl
  have p1 : W0.cell? ⟨P, 1, none⟩ = some (.int .i64 o) := by rw [hW0, hP, World.cell?_alloc_lt _ _ _ (by simp)]; exact cell_new _ _ _ _ _ rfl
  have p2 : W0.cell? ⟨P, 2, none⟩ = some (.int .i64 f) := by rw [hW0, hP, World.cell?_alloc_lt _ _ _ (by simp)]; exact cell_new _ _ _ _ _ rfl
  have q0 : W0.cell? ⟨Q, 0, none⟩ = some (.int .i64 k2) := by rw [hW0, hQ]; exact cell_new _ _ _ _ _ (by simp)
  have q1 : W0.cell? ⟨Q, 1, none⟩ = some (.int .i64 o2) := by rw [hW0, hQ]; exact cell_new _ _ _ _ _ (by simp)
  have q2 : W0.cell? ⟨Q, 2, none⟩ = some (.int .i64 f2) := by rw [hW0, hQ]; exact cell_new _ _ _ _ _ (by simp)
  have hPl : P < W0.heap.size := lt_of_cellC p0
  have hQl : Q < W0.heap.size := lt_of_cellC q0
  have HPQ := Lib.hid (show (w.heap.size ≤ P ∧ w.heap.size ≤ Q ∧ P ≠ Q) from by omega)
  clear hW0 hP hQ
  (with_reducible refine (H1.out _ hb0).mono ?_)
  rintro e w1 ⟨rfl, hb1⟩
  have hb01 : Below w.heap.size w w1 := hb0.trans (hb1.mono hb0.size)
  have p0' : w1.cell? ⟨P, 0, none⟩ = some (.int .i64 k) := by rw [hb1.cell (by exact hPl)]; exact p0
  have p1' : w1.cell? ⟨P, 1, none⟩ = some (.int .i64 o) := by rw [hb1.cell (by exact hPl)]; exact p1
  have p2' : w1.cell? ⟨P, 2, none⟩ = some (.int .i64 f) := by rw [hb1.cell (by exact hPl)]; exact p2
  have q0' : w1.cell? ⟨Q, 0, none⟩ = some (.int .i64 k2) := by rw [hb1.cell (by exact hQl)]; exact q0
  have q1' : w1.cell? ⟨Q, 1, none⟩ = some (.int .i64 o2) := by rw [hb1.cell (by exact hQl)]; exact q1
  have q2' : w1.cell? ⟨Q, 2, none⟩ = some (.int .i64 f2) := by rw [hb1.cell (by exact hQl)]; exact q2
  have hPl1 : P < w1.heap.size := lt_of_cellC p0'
  have hQl1 : Q < w1.heap.size := lt_of_cellC q0'
  clear p0 p1 p2 q0 q1 q2 hPl hQl hb0 hb1
  go_upto_region 2 with fail
  obtain ⟨W2, hW2⟩ : ∃ W2, W2 = w1.alloc (.cells #[.slice (some ⟨s, so, none⟩) n r, .slice (some ⟨c, q * 5, none⟩) n r] 102) := ⟨_, rfl⟩
  obtain ⟨A, hA⟩ : ∃ A, A = w1.heap.size := ⟨_, rfl⟩
  rw [← hW2, ← hA]
  have hb12 : Below w1.heap.size w1 W2 := by rw [hW2]; exact (Below.refl _ _).alloc (Nat.le_refl _) _
  have hb02 : Below w.heap.size w W2 := hb01.trans (hb12.mono hb01.size)
  have x0 : W2.cell? ⟨A, 0, none⟩ = some (.slice (some ⟨s, so, none⟩) n r) := by rw [hW2, hA]; exact cell_new _ _ _ _ _ rfl
  have x1 : W2.cell? ⟨A, 1, none⟩ = some (.slice (some ⟨c, q * 5, none⟩) n r) := by rw [hW2, hA]; exact cell_new _ _ _ _ _ rfl
  have p0 : W2.cell? ⟨P, 0, none⟩ = some (.int .i64 k) := by rw [hb12.cell (by exact hPl1)]; exact p0'
  have p1 : W2.cell? ⟨P, 1, none⟩ = some (.int .i64 o) := by rw [hb12.cell (by exact hPl1)]; exact p1'
  have p2 : W2.cell? ⟨P, 2, none⟩ = some (.int .i64 f) := by rw [hb12.cell (by exact hPl1)]; exact p2'
  have q0 : W2.cell? ⟨Q, 0, none⟩ = some (.int .i64 k2) := by rw [hb12.cell (by exact hQl1)]; exact q0'
  have q1 : W2.cell? ⟨Q, 1, none⟩ = some (.int .i64 o2) := by rw [hb12.cell (by exact hQl1)]; exact q1'
  have q2 : W2.cell? ⟨Q, 2, none⟩ = some (.int .i64 f2) := by rw [hb12.cell (by exact hQl1)]; exact q2'
  have HPA := Lib.hid (show (A ≠ P ∧ A ≠ Q ∧ w.heap.size ≤ A) from by have := hb01.size; omega)
  clear p0' p1' p2' q0' q1' q2' hPl1 hQl1 hb12 hW2 hA
  go_wp2_with fail
  (with_reducible refine (H2.out _ hb02).mono ?_)
  rintro e w3 ⟨rfl, hb3⟩
  have HB3 : Hid (Below w.heap.size w w3) := Lib.hid (hb02.trans (hb3.mono hb02.size))
  have p2' : w3.cell? ⟨P, 2, none⟩ = some (.int .i64 f) := by rw [hb3.cell (by exact lt_of_cellC p2)]; exact p2
  have q2' : w3.cell? ⟨Q, 2, none⟩ = some (.int .i64 f2) := by rw [hb3.cell (by exact lt_of_cellC q2)]; exact q2
  have x0' : w3.cell? ⟨A, 0, none⟩ = some (.slice (some ⟨s, so, none⟩) n r) := by rw [hb3.cell (by exact lt_of_cellC x0)]; exact x0
  have x1' : w3.cell? ⟨A, 1, none⟩ = some (.slice (some ⟨c, q * 5, none⟩) n r) := by rw [hb3.cell (by exact lt_of_cellC x0)]; exact x1
  clear p0 p1 p2 q0 q1 q2 x0 x1 hb3 hb01 hb02
  go_upto_region 3 with fail
  obtain ⟨W4, hW4⟩ : ∃ W4, W4 = w3.alloc (.cells #[.slice (some ⟨s2, so2, none⟩) n r2, .slice (some ⟨c2, co2, none⟩) n r2] 102) := ⟨_, rfl⟩
  obtain ⟨B, hB⟩ : ∃ B, B = w3.heap.size := ⟨_, rfl⟩
  rw [← hW4, ← hB]
  have hb34 : Below w3.heap.size w3 W4 := by rw [hW4]; exact (Below.refl _ _).alloc (Nat.le_refl _) _
  have HB4 : Hid (Below w.heap.size w W4) := Lib.hid (HB3.out.trans (hb34.mono HB3.out.size))
  have y0 : W4.cell? ⟨B, 0, none⟩ = some (.slice (some ⟨s2, so2, none⟩) n r2) := by rw [hW4, hB]; exact cell_new _ _ _ _ _ rfl
  have y1 : W4.cell? ⟨B, 1, none⟩ = some (.slice (some ⟨c2, co2, none⟩) n r2) := by rw [hW4, hB]; exact cell_new _ _ _ _ _ rfl
  have p2 : W4.cell? ⟨P, 2, none⟩ = some (.int .i64 f) := by rw [hb34.cell (by exact lt_of_cellC p2')]; exact p2'
  have q2 : W4.cell? ⟨Q, 2, none⟩ = some (.int .i64 f2) := by rw [hb34.cell (by exact lt_of_cellC q2')]; exact q2'
  have x0 : W4.cell? ⟨A, 0, none⟩ = some (.slice (some ⟨s, so, none⟩) n r) := by rw [hb34.cell (by exact lt_of_cellC x0')]; exact x0'
  have x1 : W4.cell? ⟨A, 1, none⟩ = some (.slice (some ⟨c, q * 5, none⟩) n r) := by rw [hb34.cell (by exact lt_of_cellC x0')]; exact x1'
  have HBA := Lib.hid (show B ≠ A ∧ w.heap.size ≤ B ∧ w.heap.size ≤ A from by have := HB3.out.size; have := lt_of_cellC x0'; have := HPA.out; omega)
  clear p2' q2' x0' x1' hb34 hW4 hB
  go_wp2_with fail
  go_ret
  exact ⟨rfl, HB4.out⟩

set_option maxRecDepth 100000 in
set_option maxHeartbeats 8000000 in
theorem copy_one (mb : Nat) (k o f k2 o2 f2 : Int) (n : Nat) (hn : n ≤ 1000000) (a1 a2 : Option Addr) (m1 m2 m3 m4 : Nat) (ok2 : Bool) (w : World) (h1 : BytesIs w mb (ptrV k o f) n (.agg #[.slice none 0 0, .slice none 0 0]) false) (h2 : BytesIs w mb (ptrV k2 o2 f2) n (.agg #[.slice a1 m1 m2, .slice a2 m3 m4]) ok2) :
    Calls Try.prog 29 #[.pointer (some ⟨mb, 0, none⟩), ptrV k o f, ptrV k2 o2 f2, .int .i64 n] w fun e w' => e = .returned (.bool false) ∧ Below w.heap.size w w' := by
  unfold BytesIs ptrV at h1 h2
  have H1 := Lib.hid h1
  have H2 := Lib.hid h2
  clear h1 h2
  unfold ptrV
  go_enter Try.func29, Try.ntmps29
  go_wp2_with fail
  obtain ⟨W0, hW0⟩ : ∃ W0, W0 = (w.alloc (.cells #[.int .i64 k, .int .i64 o, .int .i64 f] 38)).alloc (.cells #[.int .i64 k2, .int .i64 o2, .int .i64 f2] 38) := ⟨_, rfl⟩
  obtain ⟨P, hP⟩ : ∃ P, P = w.heap.size := ⟨_, rfl⟩
  obtain ⟨Q, hQ⟩ : ∃ Q, Q = w.heap.size + 1 := ⟨_, rfl⟩
  rw [← hW0, ← hQ]
  (try rw [← hP])
  have hb0 : Below w.heap.size w W0 := by rw [hW0]; exact ((Below.refl _ _).alloc (Nat.le_refl _) _).alloc (by simp) _
  have p0 : W0.cell? ⟨P, 0, none⟩ = some (.int .i64 k) := by rw [hW0, hP, World.cell?_alloc_lt _ _ _ (by simp)]; exact cell_new _ _ _ _ _ rfl
  have p1 : W0.cell? ⟨P, 1, none⟩ = some (.int .i64 o) := by rw [hW0, hP, World.cell?_alloc_lt _ _ _ (by simp)]; exact cell_new _ _ _ _ _ rfl
  have p2 : W0.cell? ⟨P, 2, none⟩ = some (.int .i64 f) := by rw [hW0, hP, World.cell?_alloc_lt _ _ _ (by simp)]; exact cell_new _ _ _ _ _ rfl
  have q0 : W0.cell? ⟨Q, 0, none⟩ = some (.int .i64 k2) := by rw [hW0, hQ]; exact cell_new _ _ _ _ _ (by simp)
  have q1 : W0.cell? ⟨Q, 1, none⟩ = some (.int .i64 o2) := by rw [hW0, hQ]; exact cell_new _ _ _ _ _ (by simp)
  have q2 : W0.cell? ⟨Q, 2, none⟩ = some (.int .i64 f2) := by rw [hW0, hQ]; exact cell_new _ _ _ _ _ (by simp)
  have hPl : P < W0.heap.size := lt_of_cellC p0
  have hQl : Q < W0.heap.size := lt_of_cellC q0
  have HPQ := Lib.hid (show (w.heap.size ≤ P ∧ w.heap.size ≤ Q ∧ P ≠ Q) from by omega)
  clear hW0 hP hQ
  (with_reducible refine (H1.out _ hb0).mono ?_)
  rintro e w1 ⟨rfl, hb1⟩
  have hb01 : Below w.heap.size w w1 := hb0.trans (hb1.mono hb0.size)
  have p0' : w1.cell? ⟨P, 0, none⟩ = some (.int .i64 k) := by rw [hb1.cell (by exact hPl)]; exact p0
  have p1' : w1.cell? ⟨P, 1, none⟩ = some (.int .i64 o) := by rw [hb1.cell (by exact hPl)]; exact p1
  have p2' : w1.cell? ⟨P, 2, none⟩ = some (.int .i64 f) := by rw [hb1.cell (by exact hPl)]; exact p2
  have q0' : w1.cell? ⟨Q, 0, none⟩ = some (.int .i64 k2) := by rw [hb1.cell (by exact hQl)]; exact q0
  have q1' : w1.cell? ⟨Q, 1, none⟩ = some (.int .i64 o2) := by rw [hb1.cell (by exact hQl)]; exact q1
  have q2' : w1.cell? ⟨Q, 2, none⟩ = some (.int .i64 f2) := by rw [hb1.cell (by exact hQl)]; exact q2
  have hPl1 : P < w1.heap.size := lt_of_cellC p0'
  have hQl1 : Q < w1.heap.size := lt_of_cellC q0'
  clear p0 p1 p2 q0 q1 q2 hPl hQl hb0 hb1
  go_upto_region 2 with fail
  obtain ⟨W2, hW2⟩ : ∃ W2, W2 = w1.alloc (.cells #[.slice none 0 0, .slice none 0 0] 102) := ⟨_, rfl⟩
  obtain ⟨A, hA⟩ : ∃ A, A = w1.heap.size := ⟨_, rfl⟩
  rw [← hW2, ← hA]
  have hb12 : Below w1.heap.size w1 W2 := by rw [hW2]; exact (Below.refl _ _).alloc (Nat.le_refl _) _
  have hb02 : Below w.heap.size w W2 := hb01.trans (hb12.mono hb01.size)
  have x0 : W2.cell? ⟨A, 0, none⟩ = some (.slice none 0 0) := by rw [hW2, hA]; exact cell_new _ _ _ _ _ rfl
  have x1 : W2.cell? ⟨A, 1, none⟩ = some (.slice none 0 0) := by rw [hW2, hA]; exact cell_new _ _ _ _ _ rfl
  have p0 : W2.cell? ⟨P, 0, none⟩ = some (.int .i64 k) := by rw [hb12.cell (by exact hPl1)]; exact p0'
  have p1 : W2.cell? ⟨P, 1, none⟩ = some (.int .i64 o) := by rw [hb12.cell (by exact hPl1)]; exact p1'
  have p2 : W2.cell? ⟨P, 2, none⟩ = some (.int .i64 f) := by rw [hb12.cell (by exact hPl1)]; exact p2'
  have q0 : W2.cell? ⟨Q, 0, none⟩ = some (.int .i64 k2) := by rw [hb12.cell (by exact hQl1)]; exact q0'
  have q1 : W2.cell? ⟨Q, 1, none⟩ = some (.int .i64 o2) := by rw [hb12.cell (by exact hQl1)]; exact q1'
  have q2 : W2.cell? ⟨Q, 2, none⟩ = some (.int .i64 f2) := by rw [hb12.cell (by exact hQl1)]; exact q2'
  have HPA := Lib.hid (show (A ≠ P ∧ A ≠ Q ∧ w.heap.size ≤ A) from by have := hb01.size; omega)
  clear p0' p1' p2' q0' q1' q2' hPl1 hQl1 hb12 hW2 hA
  go_wp2_with fail
  (with_reducible refine (H2.out _ hb02).mono ?_)
  rintro e w3 ⟨rfl, hb3⟩
  have HB3 : Hid (Below w.heap.size w w3) := Lib.hid (hb02.trans (hb3.mono hb02.size))
  have p2' : w3.cell? ⟨P, 2, none⟩ = some (.int .i64 f) := by rw [hb3.cell (by exact lt_of_cellC p2)]; exact p2
  have q2' : w3.cell? ⟨Q, 2, none⟩ = some (.int .i64 f2) := by rw [hb3.cell (by exact lt_of_cellC q2)]; exact q2
  have x0' : w3.cell? ⟨A, 0, none⟩ = some (.slice none 0 0) := by rw [hb3.cell (by exact lt_of_cellC x0)]; exact x0
  have x1' : w3.cell? ⟨A, 1, none⟩ = some (.slice none 0 0) := by rw [hb3.cell (by exact lt_of_cellC x0)]; exact x1
  clear p0 p1 p2 q0 q1 q2 x0 x1 hb3 hb01 hb02
  go_upto_region 3 with fail
  obtain ⟨W4, hW4⟩ : ∃ W4, W4 = w3.alloc (.cells #[.slice a1 m1 m2, .slice a2 m3 m4] 102) := ⟨_, rfl⟩
  obtain ⟨B, hB⟩ : ∃ B, B = w3.heap.size := ⟨_, rfl⟩
  rw [← hW4, ← hB]
  have hb34 : Below w3.heap.size w3 W4 := by rw [hW4]; exact (Below.refl _ _).alloc (Nat.le_refl _) _
  have HB4 : Hid (Below w.heap.size w W4) := Lib.hid (HB3.out.trans (hb34.mono HB3.out.size))
  have y0 : W4.cell? ⟨B, 0, none⟩ = some (.slice a1 m1 m2) := by rw [hW4, hB]; exact cell_new _ _ _ _ _ rfl
  have y1 : W4.cell? ⟨B, 1, none⟩ = some (.slice a2 m3 m4) := by rw [hW4, hB]; exact cell_new _ _ _ _ _ rfl
  have p2 : W4.cell? ⟨P, 2, none⟩ = some (.int .i64 f) := by rw [hb34.cell (by exact lt_of_cellC p2')]; exact p2'
  have q2 : W4.cell? ⟨Q, 2, none⟩ = some (.int .i64 f2) := by rw [hb34.cell (by exact lt_of_cellC q2')]; exact q2'
  have x0 : W4.cell? ⟨A, 0, none⟩ = some (.slice none 0 0) := by rw [hb34.cell (by exact lt_of_cellC x0')]; exact x0'
  have x1 : W4.cell? ⟨A, 1, none⟩ = some (.slice none 0 0) := by rw [hb34.cell (by exact lt_of_cellC x0')]; exact x1'
  have HBA := Lib.hid (show B ≠ A ∧ w.heap.size ≤ B ∧ w.heap.size ≤ A from by have := HB3.out.size; have := lt_of_cellC x0'; have := HPA.out; omega)
  clear p2' q2' x0' x1' hb34 hW4 hB
  go_wp2_with fail
  go_ret
  exact ⟨rfl, HB4.out⟩

set_option maxRecDepth 100000 in
set_option maxHeartbeats 8000000 in
theorem copy_two (mb : Nat) (k o f k2 o2 f2 : Int) (n : Nat) (hn : n ≤ 1000000) (s so c q r : Nat) (w : World) (h1 : BytesIs w mb (ptrV k o f) n (.agg #[.slice (some ⟨s, so, none⟩) n r, .slice (some ⟨c, q * 5, none⟩) n r]) true) (h2 : BytesIs w mb (ptrV k2 o2 f2) n (.agg #[.slice none 0 0, .slice none 0 0]) false) :
    Calls Try.prog 29 #[.pointer (some ⟨mb, 0, none⟩), ptrV k o f, ptrV k2 o2 f2, .int .i64 n] w fun e w' => e = .returned (.bool false) ∧ Below w.heap.size w w' := by
  unfold BytesIs ptrV at h1 h2
  have H1 := Lib.hid h1
  have H2 := Lib.hid h2
  clear h1 h2
  unfold ptrV
  go_enter Try.func29, Try.ntmps29
  go_wp2_with fail
  obtain ⟨W0, hW0⟩ : ∃ W0, W0 = (w.alloc (.cells #[.int .i64 k, .int .i64 o, .int .i64 f] 38)).alloc (.cells #[.int .i64 k2, .int .i64 o2, .int .i64 f2] 38) := ⟨_, rfl⟩
  obtain ⟨P, hP⟩ : ∃ P, P = w.heap.size := ⟨_, rfl⟩
  obtain ⟨Q, hQ⟩ : ∃ Q, Q = w.heap.size + 1 := ⟨_, rfl⟩
  rw [← hW0, ← hQ]
  (try rw [← hP])
  have hb0 : Below w.heap.size w W0 := by rw [hW0]; exact ((Below.refl _ _).alloc (Nat.le_refl _) _).alloc (by simp) _
  have p0 : W0.cell? ⟨P, 0, none⟩ = some (.int .i64 k) := by rw [hW0, hP, World.cell?_alloc_lt _ _ _ (by simp)]; exact cell_new _ _ _ _ _ rfl
  have p1 : W0.cell? ⟨P, 1, none⟩ = some (.int .i64 o) := by rw [hW0, hP, World.cell?_alloc_lt _ _ _ (by simp)]; exact cell_new _ _ _ _ _ rfl
  have p2 : W0.cell? ⟨P, 2, none⟩ = some (.int .i64 f) := by rw [hW0, hP, World.cell?_alloc_lt _ _ _ (by simp)]; exact cell_new _ _ _ _ _ rfl
  have q0 : W0.cell? ⟨Q, 0, none⟩ = some (.int .i64 k2) := by rw [hW0, hQ]; exact cell_new _ _ _ _ _ (by simp)
  have q1 : W0.cell? ⟨Q, 1, none⟩ = some (.int .i64 o2) := by rw [hW0, hQ]; exact cell_new _ _ _ _ _ (by simp)
  have q2 : W0.cell? ⟨Q, 2, none⟩ = some (.int .i64 f2) := by rw [hW0, hQ]; exact cell_new _ _ _ _ _ (by simp)
  have hPl : P < W0.heap.size := lt_of_cellC p0
  have hQl : Q < W0.heap.size := lt_of_cellC q0
  have HPQ := Lib.hid (show (w.heap.size ≤ P ∧ w.heap.size ≤ Q ∧ P ≠ Q) from by omega)
  clear hW0 hP hQ
  (with_reducible refine (H1.out _ hb0).mono ?_)
  rintro e w1 ⟨rfl, hb1⟩
  have hb01 : Below w.heap.size w w1 := hb0.trans (hb1.mono hb0.size)
  have p0' : w1.cell? ⟨P, 0, none⟩ = some (.int .i64 k) := by rw [hb1.cell (by exact hPl)]; exact p0
  have p1' : w1.cell? ⟨P, 1, none⟩ = some (.int .i64 o) := by rw [hb1.cell (by exact hPl)]; exact p1
  have p2' : w1.cell? ⟨P, 2, none⟩ = some (.int .i64 f) := by rw [hb1.cell (by exact hPl)]; exact p2
  have q0' : w1.cell? ⟨Q, 0, none⟩ = some (.int .i64 k2) := by rw [hb1.cell (by exact hQl)]; exact q0
  have q1' : w1.cell? ⟨Q, 1, none⟩ = some (.int .i64 o2) := by rw [hb1.cell (by exact hQl)]; exact q1
  have q2' : w1.cell? ⟨Q, 2, none⟩ = some (.int .i64 f2) := by rw [hb1.cell (by exact hQl)]; exact q2
  have hPl1 : P < w1.heap.size := lt_of_cellC p0'
  have hQl1 : Q < w1.heap.size := lt_of_cellC q0'
  clear p0 p1 p2 q0 q1 q2 hPl hQl hb0 hb1
  go_upto_region 2 with fail
  obtain ⟨W2, hW2⟩ : ∃ W2, W2 = w1.alloc (.cells #[.slice (some ⟨s, so, none⟩) n r, .slice (some ⟨c, q * 5, none⟩) n r] 102) := ⟨_, rfl⟩
  obtain ⟨A, hA⟩ : ∃ A, A = w1.heap.size := ⟨_, rfl⟩
  rw [← hW2, ← hA]
  have hb12 : Below w1.heap.size w1 W2 := by rw [hW2]; exact (Below.refl _ _).alloc (Nat.le_refl _) _
  have hb02 : Below w.heap.size w W2 := hb01.trans (hb12.mono hb01.size)
  have x0 : W2.cell? ⟨A, 0, none⟩ = some (.slice (some ⟨s, so, none⟩) n r) := by rw [hW2, hA]; exact cell_new _ _ _ _ _ rfl
  have x1 : W2.cell? ⟨A, 1, none⟩ = some (.slice (some ⟨c, q * 5, none⟩) n r) := by rw [hW2, hA]; exact cell_new _ _ _ _ _ rfl
  have p0 : W2.cell? ⟨P, 0, none⟩ = some (.int .i64 k) := by rw [hb12.cell (by exact hPl1)]; exact p0'
  have p1 : W2.cell? ⟨P, 1, none⟩ = some (.int .i64 o) := by rw [hb12.cell (by exact hPl1)]; exact p1'
  have p2 : W2.cell? ⟨P, 2, none⟩ = some (.int .i64 f) := by rw [hb12.cell (by exact hPl1)]; exact p2'
  have q0 : W2.cell? ⟨Q, 0, none⟩ = some (.int .i64 k2) := by rw [hb12.cell (by exact hQl1)]; exact q0'
  have q1 : W2.cell? ⟨Q, 1, none⟩ = some (.int .i64 o2) := by rw [hb12.cell (by exact hQl1)]; exact q1'
  have q2 : W2.cell? ⟨Q, 2, none⟩ = some (.int .i64 f2) := by rw [hb12.cell (by exact hQl1)]; exact q2'
  have HPA := Lib.hid (show (A ≠ P ∧ A ≠ Q ∧ w.heap.size ≤ A) from by have := hb01.size; omega)
  clear p0' p1' p2' q0' q1' q2' hPl1 hQl1 hb12 hW2 hA
  go_wp2_with fail
  (with_reducible refine (H2.out _ hb02).mono ?_)
  rintro e w3 ⟨rfl, hb3⟩
  have HB3 : Hid (Below w.heap.size w w3) := Lib.hid (hb02.trans (hb3.mono hb02.size))
  have p2' : w3.cell? ⟨P, 2, none⟩ = some (.int .i64 f) := by rw [hb3.cell (by exact lt_of_cellC p2)]; exact p2
  have q2' : w3.cell? ⟨Q, 2, none⟩ = some (.int .i64 f2) := by rw [hb3.cell (by exact lt_of_cellC q2)]; exact q2
  have x0' : w3.cell? ⟨A, 0, none⟩ = some (.slice (some ⟨s, so, none⟩) n r) := by rw [hb3.cell (by exact lt_of_cellC x0)]; exact x0
  have x1' : w3.cell? ⟨A, 1, none⟩ = some (.slice (some ⟨c, q * 5, none⟩) n r) := by rw [hb3.cell (by exact lt_of_cellC x0)]; exact x1
  clear p0 p1 p2 q0 q1 q2 x0 x1 hb3 hb01 hb02
  go_upto_region 3 with fail
  obtain ⟨W4, hW4⟩ : ∃ W4, W4 = w3.alloc (.cells #[.slice none 0 0, .slice none 0 0] 102) := ⟨_, rfl⟩
  obtain ⟨B, hB⟩ : ∃ B, B = w3.heap.size := ⟨_, rfl⟩
  rw [← hW4, ← hB]
  have hb34 : Below w3.heap.size w3 W4 := by rw [hW4]; exact (Below.refl _ _).alloc (Nat.le_refl _) _
  have HB4 : Hid (Below w.heap.size w W4) := Lib.hid (HB3.out.trans (hb34.mono HB3.out.size))
  have y0 : W4.cell? ⟨B, 0, none⟩ = some (.slice none 0 0) := by rw [hW4, hB]; exact cell_new _ _ _ _ _ rfl
  have y1 : W4.cell? ⟨B, 1, none⟩ = some (.slice none 0 0) := by rw [hW4, hB]; exact cell_new _ _ _ _ _ rfl
  have p2 : W4.cell? ⟨P, 2, none⟩ = some (.int .i64 f) := by rw [hb34.cell (by exact lt_of_cellC p2')]; exact p2'
  have q2 : W4.cell? ⟨Q, 2, none⟩ = some (.int .i64 f2) := by rw [hb34.cell (by exact lt_of_cellC q2')]; exact q2'
  have x0 : W4.cell? ⟨A, 0, none⟩ = some (.slice (some ⟨s, so, none⟩) n r) := by rw [hb34.cell (by exact lt_of_cellC x0')]; exact x0'
  have x1 : W4.cell? ⟨A, 1, none⟩ = some (.slice (some ⟨c, q * 5, none⟩) n r) := by rw [hb34.cell (by exact lt_of_cellC x0')]; exact x1'
  have HBA := Lib.hid (show B ≠ A ∧ w.heap.size ≤ B ∧ w.heap.size ≤ A from by have := HB3.out.size; have := lt_of_cellC x0'; have := HPA.out; omega)
  clear p2' q2' x0' x1' hb34 hW4 hB
  go_wp2_with fail
  go_ret
  exact ⟨rfl, HB4.out⟩
end Go.Proofs.Ytdkhanjfncbfnaa
