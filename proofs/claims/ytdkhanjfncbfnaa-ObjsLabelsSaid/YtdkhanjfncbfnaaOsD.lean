import Derived.Test.YtdkhanjfncbfnaaOsC
namespace Go.Proofs.Ytdkhanjfncbfnaa
open Go Go.RowKit
set_option linter.unusedVariables false
set_option linter.unusedSimpArgs false

/-- What behind answers in every world from w on. -/
def BehindIs (w : World) (mb : Nat) (p v : Value) (ok : Bool) : Prop := ∀ w', Below w.heap.size w w' → Calls Try.prog 35 #[.pointer (some ⟨mb, 0, none⟩), p] w' fun e w2 => e = .returned (.tuple #[v, .bool ok]) ∧ Below w'.heap.size w' w2
theorem BehindIs.later {w w' : World} {mb : Nat} {p v : Value} {ok : Bool} (h : BehindIs w mb p v ok) (hb : Below w.heap.size w w') : BehindIs w' mb p v ok := fun w2 h2 => h w2 (hb.trans (h2.mono hb.size))

set_option maxRecDepth 100000 in
set_option maxHeartbeats 4000000 in
theorem bytes_in (mb : Nat) (k o f : Int) (s so c co r n : Nat) (hn : n ≤ r) (hr : r ≤ 1000000000) (w : World) (h : BehindIs w mb (ptrV k o f) (.agg #[.slice (some ⟨s, so, none⟩) r r, .slice (some ⟨c, co, none⟩) r r]) true) :
    Calls Try.prog 50 #[.pointer (some ⟨mb, 0, none⟩), ptrV k o f, .int .i64 n] w fun e w' => e = .returned (.tuple #[.agg #[.slice (some ⟨s, so, none⟩) n r, .slice (some ⟨c, co, none⟩) n r], .bool true]) ∧ Below w.heap.size w w' := by
  have h' := h
  unfold BehindIs ptrV at h'
  unfold ptrV
  have H := Lib.hid h'
  have hnr : (n : Int) ≤ r := by omega
  clear h h'
  go_enter Try.func50, Try.ntmps50
  go_wp2_with fail
  have hb0 : Below w.heap.size w ((w.alloc (.cells #[.int .i64 k, .int .i64 o, .int .i64 f] 38)).alloc (.cells #[.slice none 0 0, .slice none 0 0] 102)) := ((Below.refl _ _).alloc (Nat.le_refl _) _).alloc (by simp) _
  (with_reducible refine (H.out _ hb0).mono ?_)
  rintro e w1 ⟨rfl, hb1⟩
  have HB1 : Hid (Below w.heap.size w w1) := Lib.hid (hb0.trans (hb1.mono hb0.size))
  have y0 : w1.cell? ⟨w.heap.size + 1, 0, none⟩ = some (.slice none 0 0) := by rw [hb1.cell (by simp)]; simp
  have y1 : w1.cell? ⟨w.heap.size + 1, 1, none⟩ = some (.slice none 0 0) := by rw [hb1.cell (by simp)]; simp
  have z0 : w1.frozen? ⟨w.heap.size + 1, 0, none⟩ = false := by rw [hb1.frozen (by simp)]; simp
  have z1 : w1.frozen? ⟨w.heap.size + 1, 1, none⟩ = false := by rw [hb1.frozen (by simp)]; simp
  have hs1 : w.heap.size + 2 ≤ w1.heap.size := by have := hb1.size; simp at this; omega
  clear hb0 hb1
  go_upto_region 4 with fail
  generalize hV : w1.alloc (.cells #[.slice (some ⟨s, so, none⟩) r r, .slice (some ⟨c, co, none⟩) r r] 102) = V
  have hbV : Below w1.heap.size w1 V := by rw [← hV]; exact (Below.refl _ _).alloc (Nat.le_refl _) _
  have hsV : V.heap.size = w1.heap.size + 1 := by rw [← hV]; simp
  have o0 : V.cell? ⟨w1.heap.size, 0, none⟩ = some (.slice (some ⟨s, so, none⟩) r r) := by rw [← hV]; simp
  have o1 : V.cell? ⟨w1.heap.size, 1, none⟩ = some (.slice (some ⟨c, co, none⟩) r r) := by rw [← hV]; simp
  have g0 : V.cell? ⟨w.heap.size + 1, 0, none⟩ = some (.slice none 0 0) := by rw [hbV.cell (by simp; omega)]; exact y0
  have g1 : V.cell? ⟨w.heap.size + 1, 1, none⟩ = some (.slice none 0 0) := by rw [hbV.cell (by simp; omega)]; exact y1
  have i0 : V.frozen? ⟨w.heap.size + 1, 0, none⟩ = false := by rw [hbV.frozen (by simp; omega)]; exact z0
  have i1 : V.frozen? ⟨w.heap.size + 1, 1, none⟩ = false := by rw [hbV.frozen (by simp; omega)]; exact z1
  obtain ⟨O, hO⟩ : ∃ O, O = w1.heap.size := ⟨_, rfl⟩
  rw [← hO] at o0 o1 hs1
  rw [← hO]
  have HBV := Lib.hid (HB1.out.trans (hbV.mono HB1.out.size))
  have hX : w.heap.size + 1 ≠ O := by omega
  have SD : Hid (V.drew.cell? ⟨O, 0, none⟩ = some (.slice (some ⟨s, so, none⟩) r r) ∧ V.drew.cell? ⟨O, 1, none⟩ = some (.slice (some ⟨c, co, none⟩) r r)) := Lib.hid ⟨o0, o1⟩
  clear hV hbV hsV y0 y1 z0 z1 hO
  refine wp_region_held_drew (S := (fun w' => w'.cell? ⟨O, 0, none⟩ = some (.slice (some ⟨s, so, none⟩) r r) ∧ w'.cell? ⟨O, 1, none⟩ = some (.slice (some ⟨c, co, none⟩) r r))) (by kernel_rfl) (by exact SD.out) (fun hHeld => ?_)
  refine takeD (i := 0) (d := 30) (v := ?_) rfl rfl (by kernel_rfl) (by kernel_rfl) (by kernel_rfl) (fun _ _ _ h => h) (Or.inl ⟨by rfl, ?_⟩) (by assumption) ?_
  rotate_left
  · intro w hSw
    (try dsimp only at hSw)
    go_simp
    (try with_reducible rfl)
  (try simp only [Act.put, List.setIfInBounds_toArray, List.set_cons_zero, List.set_cons_succ])
  refine takeD (i := 1) (d := 31) (v := ?_) rfl rfl (by kernel_rfl) (by kernel_rfl) (by kernel_rfl) (fun _ _ _ h => h) (Or.inl ⟨by rfl, ?_⟩) (by assumption) ?_
  rotate_left
  · intro w hSw
    (try dsimp only at hSw)
    go_simp
    (try with_reducible rfl)
  (try simp only [Act.put, List.setIfInBounds_toArray, List.set_cons_zero, List.set_cons_succ])
  refine takeD (i := 2) (d := 32) (v := ?_) rfl rfl (by kernel_rfl) (by kernel_rfl) (by kernel_rfl) (fun _ _ _ h => h) (Or.inl ⟨by rfl, ?_⟩) (by assumption) ?_
  rotate_left
  · intro w hSw
    (try dsimp only at hSw)
    go_simp
    (try with_reducible rfl)
  (try simp only [Act.put, List.setIfInBounds_toArray, List.set_cons_zero, List.set_cons_succ])
  refine takeD (i := 3) (d := 33) (v := ?_) rfl rfl (by kernel_rfl) (by kernel_rfl) (by kernel_rfl) (fun _ _ _ h => h) (Or.inl ⟨by rfl, ?_⟩) (by assumption) ?_
  rotate_left
  · intro w hSw
    (try dsimp only at hSw)
    go_simp
    (try with_reducible rfl)
  (try simp only [Act.put, List.setIfInBounds_toArray, List.set_cons_zero, List.set_cons_succ])
  refine takeD (i := 4) (d := 34) (v := ?_) rfl rfl (by kernel_rfl) (by kernel_rfl) (by kernel_rfl) (fun _ _ _ h => h) (Or.inl ⟨by rfl, ?_⟩) (by assumption) ?_
  rotate_left
  · intro w hSw
    (try dsimp only at hSw)
    go_simp
    (try with_reducible rfl)
  (try simp only [Act.put, List.setIfInBounds_toArray, List.set_cons_zero, List.set_cons_succ])
  refine takeD (i := 5) (d := 35) (v := ?_) rfl rfl (by kernel_rfl) (by kernel_rfl) (by kernel_rfl) (fun _ _ _ h => h) (Or.inl ⟨by rfl, ?_⟩) (by assumption) ?_
  rotate_left
  · intro w hSw
    (try dsimp only at hSw)
    go_simp
    (try with_reducible rfl)
  (try simp only [Act.put, List.setIfInBounds_toArray, List.set_cons_zero, List.set_cons_succ])
  refine takeD (i := 6) (d := 36) (v := ?_) rfl rfl (by kernel_rfl) (by kernel_rfl) (by kernel_rfl) (fun _ _ _ h => h) (Or.inl ⟨by rfl, ?_⟩) (by assumption) ?_
  rotate_left
  · intro w hSw
    (try dsimp only at hSw)
    go_simp
    (try with_reducible rfl)
  (try simp only [Act.put, List.setIfInBounds_toArray, List.set_cons_zero, List.set_cons_succ])
  refine takeD (i := 7) (d := 37) (v := ?_) rfl rfl (by kernel_rfl) (by kernel_rfl) (by kernel_rfl) (fun _ _ _ h => h) (Or.inl ⟨by rfl, ?_⟩) (by assumption) ?_
  rotate_left
  · intro w hSw
    (try dsimp only at hSw)
    go_simp
    (try with_reducible rfl)
  (try simp only [Act.put, List.setIfInBounds_toArray, List.set_cons_zero, List.set_cons_succ])
  refine takeD (i := 8) (d := 38) (v := ?_) rfl rfl (by kernel_rfl) (by kernel_rfl) (by kernel_rfl) (fun _ _ _ h => h) (Or.inl ⟨by rfl, ?_⟩) (by assumption) ?_
  rotate_left
  · intro w hSw
    (try dsimp only at hSw)
    go_simp
    (try with_reducible rfl)
  (try simp only [Act.put, List.setIfInBounds_toArray, List.set_cons_zero, List.set_cons_succ])
  refine wpAnyH_ready (rs := [9]) (by kernel_rfl) (by simp) ?_
  refine AllReadyH.cons rfl (fun K hK => ?_) AllReadyH.nil
  go_simp
  refine hK.out _ _ ?_ (fun hHeld2 => ?_)
  · (refine ⟨?_, ?_⟩ <;> (rw [drew_cell] <;> (rw [World.cell?_setCell_far _ _ _ _ (by simp; omega), World.cell?_setCell_far _ _ _ _ (by simp; omega)]; assumption)))
  clear hHeld hK K
  have hHeld := hHeld2
  clear hHeld2
  (try simp only [Act.put, List.setIfInBounds_toArray, List.set_cons_zero, List.set_cons_succ])
  refine takeD (i := 10) (d := 7) (v := ?_) rfl rfl (by kernel_rfl) (by kernel_rfl) (by kernel_rfl) (fun _ _ _ h => h) (Or.inl ⟨by rfl, ?_⟩) (by assumption) ?_
  rotate_left
  · intro w hSw
    (try dsimp only at hSw)
    go_simp
    (try with_reducible rfl)
  (try simp only [Act.put, List.setIfInBounds_toArray, List.set_cons_zero, List.set_cons_succ])
  refine wpAnyH_done (by kernel_rfl) ?_ _
  clear hHeld
  go_wp2_with fail
  have hbv := HBV.out
  refine bodyPost_ret (v := .tuple #[.agg #[.slice (some ⟨s, so, none⟩) n r, .slice (some ⟨c, co, none⟩) n r], .bool true]) ?_ rfl ⟨rfl, ?_⟩
  · simp [results, Try.results50, go_sem, g0, g1]
  · ((repeat (first | (with_reducible exact hbv) | (with_reducible apply Below.setCell) | (with_reducible apply Below.alloc) | (with_reducible apply Below.drew))) <;> first | omega | (simp <;> omega))

set_option maxRecDepth 100000 in
set_option maxHeartbeats 4000000 in
theorem bytes_no (mb : Nat) (k o f : Int) (n : Int) (w : World) (h : BehindIs w mb (ptrV k o f) noObj false) :
    Calls Try.prog 50 #[.pointer (some ⟨mb, 0, none⟩), ptrV k o f, .int .i64 n] w fun e w' => e = .returned (.tuple #[noObj, .bool false]) ∧ Below w.heap.size w w' := by
  have h' := h
  unfold BehindIs ptrV at h'
  (try unfold noObj at h')
  unfold ptrV
  have H := Lib.hid h'
  clear h h'
  go_enter Try.func50, Try.ntmps50
  go_wp2_with fail
  have hb0 : Below w.heap.size w ((w.alloc (.cells #[.int .i64 k, .int .i64 o, .int .i64 f] 38)).alloc (.cells #[.slice none 0 0, .slice none 0 0] 102)) := ((Below.refl _ _).alloc (Nat.le_refl _) _).alloc (by simp) _
  (with_reducible refine (H.out _ hb0).mono ?_)
  rintro e w1 ⟨rfl, hb1⟩
  have HB1 : Hid (Below w.heap.size w w1) := Lib.hid (hb0.trans (hb1.mono hb0.size))
  have hs1 : w.heap.size + 2 ≤ w1.heap.size := by have := hb1.size; simp at this; omega
  have x0 : w1.cell? ⟨w.heap.size, 0, none⟩ = some (.int .i64 k) := by rw [hb1.cell (by simp; omega)]; simp
  have x1 : w1.cell? ⟨w.heap.size, 1, none⟩ = some (.int .i64 o) := by rw [hb1.cell (by simp; omega)]; simp
  have x2 : w1.cell? ⟨w.heap.size, 2, none⟩ = some (.int .i64 f) := by rw [hb1.cell (by simp; omega)]; simp
  have xf : w1.frozen? ⟨w.heap.size, 2, none⟩ = false := by rw [hb1.frozen (by simp; omega)]; simp
  have y0 : w1.cell? ⟨w.heap.size + 1, 0, none⟩ = some (.slice none 0 0) := by rw [hb1.cell (by simp)]; simp
  have z0 : w1.frozen? ⟨w.heap.size + 1, 0, none⟩ = false := by rw [hb1.frozen (by simp)]; simp
  have y1 : w1.cell? ⟨w.heap.size + 1, 1, none⟩ = some (.slice none 0 0) := by rw [hb1.cell (by simp)]; simp
  have z1 : w1.frozen? ⟨w.heap.size + 1, 1, none⟩ = false := by rw [hb1.frozen (by simp)]; simp
  have hs2 : w.heap.size + 1 < w1.heap.size := by omega
  have hs3 : w.heap.size < w1.heap.size := by omega
  have hs4 : w.heap.size + 1 ≠ w1.heap.size := by omega
  have hs5 : w.heap.size ≠ w1.heap.size := by omega
  clear hb0 hb1
  go_wp2_with fail
  have hbv := HB1.out
  refine bodyPost_ret (v := .tuple #[noObj, .bool false]) ?_ rfl ⟨rfl, ?_⟩
  · simp [results, Try.results50, go_sem, noObj, ptrV, y0, y1, hs2, hs3, hs4, hs5]
  · ((repeat (first | (with_reducible exact hbv) | (with_reducible apply Below.setCell) | (with_reducible apply Below.alloc) | (with_reducible apply Below.drew))) <;> first | omega | (simp <;> omega))

set_option maxRecDepth 100000 in
set_option maxHeartbeats 4000000 in
theorem bytes_far (mb : Nat) (k o f : Int) (s so c co r n : Nat) (hn : ¬ n ≤ r) (hr : r ≤ 1000000000) (hn2 : n ≤ 1000000000) (w : World) (h : BehindIs w mb (ptrV k o f) (.agg #[.slice (some ⟨s, so, none⟩) r r, .slice (some ⟨c, co, none⟩) r r]) true) :
    Calls Try.prog 50 #[.pointer (some ⟨mb, 0, none⟩), ptrV k o f, .int .i64 n] w fun e w' => e = .returned (.tuple #[noObj, .bool false]) ∧ Below w.heap.size w w' := by
  have h' := h
  unfold BehindIs ptrV at h'
  (try unfold noObj at h')
  unfold ptrV
  have H := Lib.hid h'
  have hnr : (r : Int) < n := by omega
  have hnr2 : ¬ (n : Int) ≤ r := by omega
  clear h h'
  go_enter Try.func50, Try.ntmps50
  go_wp2_with fail
  have hb0 : Below w.heap.size w ((w.alloc (.cells #[.int .i64 k, .int .i64 o, .int .i64 f] 38)).alloc (.cells #[.slice none 0 0, .slice none 0 0] 102)) := ((Below.refl _ _).alloc (Nat.le_refl _) _).alloc (by simp) _
  (with_reducible refine (H.out _ hb0).mono ?_)
  rintro e w1 ⟨rfl, hb1⟩
  have HB1 : Hid (Below w.heap.size w w1) := Lib.hid (hb0.trans (hb1.mono hb0.size))
  have hs1 : w.heap.size + 2 ≤ w1.heap.size := by have := hb1.size; simp at this; omega
  have x0 : w1.cell? ⟨w.heap.size, 0, none⟩ = some (.int .i64 k) := by rw [hb1.cell (by simp; omega)]; simp
  have x1 : w1.cell? ⟨w.heap.size, 1, none⟩ = some (.int .i64 o) := by rw [hb1.cell (by simp; omega)]; simp
  have x2 : w1.cell? ⟨w.heap.size, 2, none⟩ = some (.int .i64 f) := by rw [hb1.cell (by simp; omega)]; simp
  have xf : w1.frozen? ⟨w.heap.size, 2, none⟩ = false := by rw [hb1.frozen (by simp; omega)]; simp
  have y0 : w1.cell? ⟨w.heap.size + 1, 0, none⟩ = some (.slice none 0 0) := by rw [hb1.cell (by simp)]; simp
  have z0 : w1.frozen? ⟨w.heap.size + 1, 0, none⟩ = false := by rw [hb1.frozen (by simp)]; simp
  have y1 : w1.cell? ⟨w.heap.size + 1, 1, none⟩ = some (.slice none 0 0) := by rw [hb1.cell (by simp)]; simp
  have z1 : w1.frozen? ⟨w.heap.size + 1, 1, none⟩ = false := by rw [hb1.frozen (by simp)]; simp
  have hs2 : w.heap.size + 1 < w1.heap.size := by omega
  have hs3 : w.heap.size < w1.heap.size := by omega
  have hs4 : w.heap.size + 1 ≠ w1.heap.size := by omega
  have hs5 : w.heap.size ≠ w1.heap.size := by omega
  clear hb0 hb1
  go_wp2_with fail
  have hbv := HB1.out
  refine bodyPost_ret (v := .tuple #[noObj, .bool false]) ?_ rfl ⟨rfl, ?_⟩
  · simp [results, Try.results50, go_sem, noObj, ptrV, y0, y1, hs2, hs3, hs4, hs5]
  · ((repeat (first | (with_reducible exact hbv) | (with_reducible apply Below.setCell) | (with_reducible apply Below.alloc) | (with_reducible apply Below.drew))) <;> first | omega | (simp <;> omega))

set_option maxRecDepth 100000 in
set_option maxHeartbeats 4000000 in
theorem add_no (mb : Nat) (k o f : Int) (x : Int) (w : World) (h : BehindIs w mb (ptrV k o f) noObj false) :
    Calls Try.prog 27 #[.pointer (some ⟨mb, 0, none⟩), ptrV k o f, .int .i64 x] w fun e w' => e = .returned (.tuple #[ptrV 0 0 0, .bool false]) ∧ Below w.heap.size w w' := by
  have h' := h
  unfold BehindIs ptrV at h'
  (try unfold noObj at h')
  unfold ptrV
  have H := Lib.hid h'
  clear h h'
  go_enter Try.func27, Try.ntmps27
  go_wp2_with fail
  have hb0 : Below w.heap.size w ((w.alloc (.cells #[.int .i64 k, .int .i64 o, .int .i64 f] 38)).alloc (.cells #[.int .i64 0, .int .i64 0, .int .i64 0] 38)) := ((Below.refl _ _).alloc (Nat.le_refl _) _).alloc (by simp) _
  (with_reducible refine (H.out _ hb0).mono ?_)
  rintro e w1 ⟨rfl, hb1⟩
  have HB1 : Hid (Below w.heap.size w w1) := Lib.hid (hb0.trans (hb1.mono hb0.size))
  have hs1 : w.heap.size + 2 ≤ w1.heap.size := by have := hb1.size; simp at this; omega
  have x0 : w1.cell? ⟨w.heap.size, 0, none⟩ = some (.int .i64 k) := by rw [hb1.cell (by simp; omega)]; simp
  have x1 : w1.cell? ⟨w.heap.size, 1, none⟩ = some (.int .i64 o) := by rw [hb1.cell (by simp; omega)]; simp
  have x2 : w1.cell? ⟨w.heap.size, 2, none⟩ = some (.int .i64 f) := by rw [hb1.cell (by simp; omega)]; simp
  have xf : w1.frozen? ⟨w.heap.size, 2, none⟩ = false := by rw [hb1.frozen (by simp; omega)]; simp
  have y0 : w1.cell? ⟨w.heap.size + 1, 0, none⟩ = some (.int .i64 0) := by rw [hb1.cell (by simp)]; simp
  have z0 : w1.frozen? ⟨w.heap.size + 1, 0, none⟩ = false := by rw [hb1.frozen (by simp)]; simp
  have y1 : w1.cell? ⟨w.heap.size + 1, 1, none⟩ = some (.int .i64 0) := by rw [hb1.cell (by simp)]; simp
  have z1 : w1.frozen? ⟨w.heap.size + 1, 1, none⟩ = false := by rw [hb1.frozen (by simp)]; simp
  have y2 : w1.cell? ⟨w.heap.size + 1, 2, none⟩ = some (.int .i64 0) := by rw [hb1.cell (by simp)]; simp
  have z2 : w1.frozen? ⟨w.heap.size + 1, 2, none⟩ = false := by rw [hb1.frozen (by simp)]; simp
  have hs2 : w.heap.size + 1 < w1.heap.size := by omega
  have hs3 : w.heap.size < w1.heap.size := by omega
  have hs4 : w.heap.size + 1 ≠ w1.heap.size := by omega
  have hs5 : w.heap.size ≠ w1.heap.size := by omega
  clear hb0 hb1
  go_wp2_with fail
  have hbv := HB1.out
  refine bodyPost_ret (v := .tuple #[ptrV 0 0 0, .bool false]) ?_ rfl ⟨rfl, ?_⟩
  · simp [results, Try.results27, go_sem, noObj, ptrV, y0, y1, y2, hs2, hs3, hs4, hs5]
  · ((repeat (first | (with_reducible exact hbv) | (with_reducible apply Below.setCell) | (with_reducible apply Below.alloc) | (with_reducible apply Below.drew))) <;> first | omega | (simp <;> omega))

set_option maxRecDepth 100000 in
set_option maxHeartbeats 4000000 in
theorem add_low (mb : Nat) (k o f : Int) (s so c co r : Nat) (x : Int) (hx : x < -f) (hf0 : 0 ≤ f) (hf1 : f ≤ 1000000000) (hr : r ≤ 1000000000) (w : World) (h : BehindIs w mb (ptrV k o f) (.agg #[.slice (some ⟨s, so, none⟩) r r, .slice (some ⟨c, co, none⟩) r r]) true) :
    Calls Try.prog 27 #[.pointer (some ⟨mb, 0, none⟩), ptrV k o f, .int .i64 x] w fun e w' => e = .returned (.tuple #[ptrV 0 0 0, .bool false]) ∧ Below w.heap.size w w' := by
  have h' := h
  unfold BehindIs ptrV at h'
  (try unfold noObj at h')
  unfold ptrV
  have H := Lib.hid h'
  clear h h'
  go_enter Try.func27, Try.ntmps27
  go_wp2_with fail
  have hb0 : Below w.heap.size w ((w.alloc (.cells #[.int .i64 k, .int .i64 o, .int .i64 f] 38)).alloc (.cells #[.int .i64 0, .int .i64 0, .int .i64 0] 38)) := ((Below.refl _ _).alloc (Nat.le_refl _) _).alloc (by simp) _
  (with_reducible refine (H.out _ hb0).mono ?_)
  rintro e w1 ⟨rfl, hb1⟩
  have HB1 : Hid (Below w.heap.size w w1) := Lib.hid (hb0.trans (hb1.mono hb0.size))
  have hs1 : w.heap.size + 2 ≤ w1.heap.size := by have := hb1.size; simp at this; omega
  have x0 : w1.cell? ⟨w.heap.size, 0, none⟩ = some (.int .i64 k) := by rw [hb1.cell (by simp; omega)]; simp
  have x1 : w1.cell? ⟨w.heap.size, 1, none⟩ = some (.int .i64 o) := by rw [hb1.cell (by simp; omega)]; simp
  have x2 : w1.cell? ⟨w.heap.size, 2, none⟩ = some (.int .i64 f) := by rw [hb1.cell (by simp; omega)]; simp
  have xf : w1.frozen? ⟨w.heap.size, 2, none⟩ = false := by rw [hb1.frozen (by simp; omega)]; simp
  have y0 : w1.cell? ⟨w.heap.size + 1, 0, none⟩ = some (.int .i64 0) := by rw [hb1.cell (by simp)]; simp
  have z0 : w1.frozen? ⟨w.heap.size + 1, 0, none⟩ = false := by rw [hb1.frozen (by simp)]; simp
  have y1 : w1.cell? ⟨w.heap.size + 1, 1, none⟩ = some (.int .i64 0) := by rw [hb1.cell (by simp)]; simp
  have z1 : w1.frozen? ⟨w.heap.size + 1, 1, none⟩ = false := by rw [hb1.frozen (by simp)]; simp
  have y2 : w1.cell? ⟨w.heap.size + 1, 2, none⟩ = some (.int .i64 0) := by rw [hb1.cell (by simp)]; simp
  have z2 : w1.frozen? ⟨w.heap.size + 1, 2, none⟩ = false := by rw [hb1.frozen (by simp)]; simp
  have hs2 : w.heap.size + 1 < w1.heap.size := by omega
  have hs3 : w.heap.size < w1.heap.size := by omega
  have hs4 : w.heap.size + 1 ≠ w1.heap.size := by omega
  have hs5 : w.heap.size ≠ w1.heap.size := by omega
  clear hb0 hb1
  go_wp2_with fail
  have hbv := HB1.out
  refine bodyPost_ret (v := .tuple #[ptrV 0 0 0, .bool false]) ?_ rfl ⟨rfl, ?_⟩
  · simp [results, Try.results27, go_sem, noObj, ptrV, y0, y1, y2, hs2, hs3, hs4, hs5]
  · ((repeat (first | (with_reducible exact hbv) | (with_reducible apply Below.setCell) | (with_reducible apply Below.alloc) | (with_reducible apply Below.drew))) <;> first | omega | (simp <;> omega))

set_option maxRecDepth 100000 in
set_option maxHeartbeats 4000000 in
theorem add_high (mb : Nat) (k o f : Int) (s so c co r : Nat) (x : Int) (hx0 : ¬ x < -f) (hx : (r : Int) < x) (hf0 : 0 ≤ f) (hf1 : f ≤ 1000000000) (hr : r ≤ 1000000000) (w : World) (h : BehindIs w mb (ptrV k o f) (.agg #[.slice (some ⟨s, so, none⟩) r r, .slice (some ⟨c, co, none⟩) r r]) true) :
    Calls Try.prog 27 #[.pointer (some ⟨mb, 0, none⟩), ptrV k o f, .int .i64 x] w fun e w' => e = .returned (.tuple #[ptrV 0 0 0, .bool false]) ∧ Below w.heap.size w w' := by
  have h' := h
  unfold BehindIs ptrV at h'
  (try unfold noObj at h')
  unfold ptrV
  have H := Lib.hid h'
  clear h h'
  go_enter Try.func27, Try.ntmps27
  go_wp2_with fail
  have hb0 : Below w.heap.size w ((w.alloc (.cells #[.int .i64 k, .int .i64 o, .int .i64 f] 38)).alloc (.cells #[.int .i64 0, .int .i64 0, .int .i64 0] 38)) := ((Below.refl _ _).alloc (Nat.le_refl _) _).alloc (by simp) _
  (with_reducible refine (H.out _ hb0).mono ?_)
  rintro e w1 ⟨rfl, hb1⟩
  have HB1 : Hid (Below w.heap.size w w1) := Lib.hid (hb0.trans (hb1.mono hb0.size))
  have hs1 : w.heap.size + 2 ≤ w1.heap.size := by have := hb1.size; simp at this; omega
  have x0 : w1.cell? ⟨w.heap.size, 0, none⟩ = some (.int .i64 k) := by rw [hb1.cell (by simp; omega)]; simp
  have x1 : w1.cell? ⟨w.heap.size, 1, none⟩ = some (.int .i64 o) := by rw [hb1.cell (by simp; omega)]; simp
  have x2 : w1.cell? ⟨w.heap.size, 2, none⟩ = some (.int .i64 f) := by rw [hb1.cell (by simp; omega)]; simp
  have xf : w1.frozen? ⟨w.heap.size, 2, none⟩ = false := by rw [hb1.frozen (by simp; omega)]; simp
  have y0 : w1.cell? ⟨w.heap.size + 1, 0, none⟩ = some (.int .i64 0) := by rw [hb1.cell (by simp)]; simp
  have z0 : w1.frozen? ⟨w.heap.size + 1, 0, none⟩ = false := by rw [hb1.frozen (by simp)]; simp
  have y1 : w1.cell? ⟨w.heap.size + 1, 1, none⟩ = some (.int .i64 0) := by rw [hb1.cell (by simp)]; simp
  have z1 : w1.frozen? ⟨w.heap.size + 1, 1, none⟩ = false := by rw [hb1.frozen (by simp)]; simp
  have y2 : w1.cell? ⟨w.heap.size + 1, 2, none⟩ = some (.int .i64 0) := by rw [hb1.cell (by simp)]; simp
  have z2 : w1.frozen? ⟨w.heap.size + 1, 2, none⟩ = false := by rw [hb1.frozen (by simp)]; simp
  have hs2 : w.heap.size + 1 < w1.heap.size := by omega
  have hs3 : w.heap.size < w1.heap.size := by omega
  have hs4 : w.heap.size + 1 ≠ w1.heap.size := by omega
  have hs5 : w.heap.size ≠ w1.heap.size := by omega
  clear hb0 hb1
  go_wp2_with fail
  have hbv := HB1.out
  refine bodyPost_ret (v := .tuple #[ptrV 0 0 0, .bool false]) ?_ rfl ⟨rfl, ?_⟩
  · simp [results, Try.results27, go_sem, noObj, ptrV, y0, y1, y2, hs2, hs3, hs4, hs5]
  · ((repeat (first | (with_reducible exact hbv) | (with_reducible apply Below.setCell) | (with_reducible apply Below.alloc) | (with_reducible apply Below.drew))) <;> first | omega | (simp <;> omega))

set_option maxRecDepth 100000 in
set_option maxHeartbeats 4000000 in
theorem add_in (mb : Nat) (k o f : Int) (s so c co r : Nat) (x : Int) (hx0 : ¬ x < -f) (hx : ¬ (r : Int) < x) (hf0 : 0 ≤ f) (hf1 : f ≤ 1000000000) (hr : r ≤ 1000000000) (w : World) (h : BehindIs w mb (ptrV k o f) (.agg #[.slice (some ⟨s, so, none⟩) r r, .slice (some ⟨c, co, none⟩) r r]) true) :
    Calls Try.prog 27 #[.pointer (some ⟨mb, 0, none⟩), ptrV k o f, .int .i64 x] w fun e w' => e = .returned (.tuple #[ptrV k o (f + x), .bool true]) ∧ Below w.heap.size w w' := by
  have h' := h
  unfold BehindIs ptrV at h'
  (try unfold noObj at h')
  unfold ptrV
  have H := Lib.hid h'
  clear h h'
  go_enter Try.func27, Try.ntmps27
  go_wp2_with fail
  have hb0 : Below w.heap.size w ((w.alloc (.cells #[.int .i64 k, .int .i64 o, .int .i64 f] 38)).alloc (.cells #[.int .i64 0, .int .i64 0, .int .i64 0] 38)) := ((Below.refl _ _).alloc (Nat.le_refl _) _).alloc (by simp) _
  (with_reducible refine (H.out _ hb0).mono ?_)
  rintro e w1 ⟨rfl, hb1⟩
  have HB1 : Hid (Below w.heap.size w w1) := Lib.hid (hb0.trans (hb1.mono hb0.size))
  have hs1 : w.heap.size + 2 ≤ w1.heap.size := by have := hb1.size; simp at this; omega
  have x0 : w1.cell? ⟨w.heap.size, 0, none⟩ = some (.int .i64 k) := by rw [hb1.cell (by simp; omega)]; simp
  have x1 : w1.cell? ⟨w.heap.size, 1, none⟩ = some (.int .i64 o) := by rw [hb1.cell (by simp; omega)]; simp
  have x2 : w1.cell? ⟨w.heap.size, 2, none⟩ = some (.int .i64 f) := by rw [hb1.cell (by simp; omega)]; simp
  have xf : w1.frozen? ⟨w.heap.size, 2, none⟩ = false := by rw [hb1.frozen (by simp; omega)]; simp
  have y0 : w1.cell? ⟨w.heap.size + 1, 0, none⟩ = some (.int .i64 0) := by rw [hb1.cell (by simp)]; simp
  have z0 : w1.frozen? ⟨w.heap.size + 1, 0, none⟩ = false := by rw [hb1.frozen (by simp)]; simp
  have y1 : w1.cell? ⟨w.heap.size + 1, 1, none⟩ = some (.int .i64 0) := by rw [hb1.cell (by simp)]; simp
  have z1 : w1.frozen? ⟨w.heap.size + 1, 1, none⟩ = false := by rw [hb1.frozen (by simp)]; simp
  have y2 : w1.cell? ⟨w.heap.size + 1, 2, none⟩ = some (.int .i64 0) := by rw [hb1.cell (by simp)]; simp
  have z2 : w1.frozen? ⟨w.heap.size + 1, 2, none⟩ = false := by rw [hb1.frozen (by simp)]; simp
  have hs2 : w.heap.size + 1 < w1.heap.size := by omega
  have hs3 : w.heap.size < w1.heap.size := by omega
  have hs4 : w.heap.size + 1 ≠ w1.heap.size := by omega
  have hs5 : w.heap.size ≠ w1.heap.size := by omega
  clear hb0 hb1
  go_wp2_with fail
  have hbv := HB1.out
  refine bodyPost_ret (v := .tuple #[ptrV k o (f + x), .bool true]) ?_ rfl ⟨rfl, ?_⟩
  · simp [results, Try.results27, go_sem, noObj, ptrV, y0, y1, y2, hs2, hs3, hs4, hs5]
  · ((repeat (first | (with_reducible exact hbv) | (with_reducible apply Below.setCell) | (with_reducible apply Below.alloc) | (with_reducible apply Below.drew))) <;> first | omega | (simp <;> omega))
end Go.Proofs.Ytdkhanjfncbfnaa
