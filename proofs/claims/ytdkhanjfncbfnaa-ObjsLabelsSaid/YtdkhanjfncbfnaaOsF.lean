import Derived.Test.YtdkhanjfncbfnaaOsE
namespace Go.Proofs.Ytdkhanjfncbfnaa
open Go Go.RowKit
set_option linter.unusedVariables false
set_option linter.unusedSimpArgs false

theorem cell_new (W : World) (vs : Array Value) (T : TypeId) (b j : Nat) (hb : b = W.heap.size) : (W.alloc (.cells vs T)).cell? ⟨b, j, none⟩ = vs[j]? := by
  subst hb
  simp
theorem frozen_new (W : World) (vs : Array Value) (T : TypeId) (b j : Nat) (hb : b = W.heap.size) : (W.alloc (.cells vs T)).frozen? ⟨b, j, none⟩ = false := by
  subst hb
  simp
/-- What bytes answers in every world from w on. -/
def BytesIs (w : World) (mb : Nat) (p : Value) (n : Int) (v : Value) (ok : Bool) : Prop := ∀ w', Below w.heap.size w w' → Calls Try.prog 50 #[.pointer (some ⟨mb, 0, none⟩), p, .int .i64 n] w' fun e w2 => e = .returned (.tuple #[v, .bool ok]) ∧ Below w'.heap.size w' w2
theorem BytesIs.later {w w' : World} {mb : Nat} {p v : Value} {n : Int} {ok : Bool} (h : BytesIs w mb p n v ok) (hb : Below w.heap.size w w') : BytesIs w' mb p n v ok := fun w2 h2 => h w2 (hb.trans (h2.mono hb.size))
theorem bytesIs_in {w : World} {mb : Nat} {k o f : Int} {s so c co r n : Nat} (hn : n ≤ r) (hr : r ≤ 1000000000) (h : BehindIs w mb (ptrV k o f) (.agg #[.slice (some ⟨s, so, none⟩) r r, .slice (some ⟨c, co, none⟩) r r]) true) : BytesIs w mb (ptrV k o f) n (.agg #[.slice (some ⟨s, so, none⟩) n r, .slice (some ⟨c, co, none⟩) n r]) true :=
  fun w' hb => bytes_in mb k o f s so c co r n hn hr w' (h.later hb)
theorem bytesIs_far {w : World} {mb : Nat} {k o f : Int} {s so c co r n : Nat} (hn : ¬ n ≤ r) (hr : r ≤ 1000000000) (hn2 : n ≤ 1000000000) (h : BehindIs w mb (ptrV k o f) (.agg #[.slice (some ⟨s, so, none⟩) r r, .slice (some ⟨c, co, none⟩) r r]) true) : BytesIs w mb (ptrV k o f) n noObj false :=
  fun w' hb => bytes_far mb k o f s so c co r n hn hr hn2 w' (h.later hb)
theorem bytesIs_no {w : World} {mb : Nat} {k o f n : Int} (h : BehindIs w mb (ptrV k o f) noObj false) : BytesIs w mb (ptrV k o f) n noObj false :=
  fun w' hb => bytes_no mb k o f n w' (h.later hb)

set_option maxRecDepth 100000 in
set_option maxHeartbeats 8000000 in
theorem acc_int_yes (mb : Nat) (k o f : Int) (sz : Nat) (hsz : Sz sz) (sg sc : Bool) (s so c co r : Nat) (w : World) (h : BytesIs w mb (ptrV k o f) sz (.agg #[.slice (some ⟨s, so, none⟩) sz r, .slice (some ⟨c, co, none⟩) sz r]) true) (hlab : Labs w s so sz (fun _ => sc)) (hsl : s < w.heap.size) :
    Calls Try.prog 45 #[.pointer (some ⟨mb, 0, none⟩), ptrV k o f, tI sz sg sc] w fun e w' => e = .returned (.tuple #[(.agg #[.slice (some ⟨s, so, none⟩) sz r, .slice (some ⟨c, co, none⟩) sz r]), .bool true]) ∧ Below w.heap.size w w' := by
  have h' := h
  unfold BytesIs ptrV at h'
  (try unfold noObj at h')
  have H := Lib.hid h'
  have hwd := fun (w : World) => width_int sz hsz sg sc w
  unfold tI at hwd
  have HW := Lib.hid hwd
  have hs0 : (sz : Int) ≠ 0 := by rcases hsz with h | h | h | h <;> omega
  have HL := Lib.hid hlab
  have HC := Lib.hid (fun (w' : World) (hb : Below w.heap.size w w') => contains_any s so sz r (fun _ => sc) (!sc) (by rcases hsz with h | h | h | h <;> omega) w' (hlab.below hb hsl) false ⟨(fun h => by cases h), fun ⟨i, _, h⟩ => by cases sc <;> simp at h⟩)
  clear h h' hwd hlab
  unfold ptrV tI
  go_enter Try.func45, Try.ntmps45
  go_wp2_with fail
  have hb0 : Below w.heap.size w (((w.alloc (.cells #[.int .i64 k, .int .i64 o, .int .i64 f] 38)).alloc (.cells #[.int .i64 1, .int .i64 sz, .bool sg, .bool sc, .pointer none, .int .i64 0, .int .i64 0, .slice none 0 0, .pointer none] 57)).alloc (.cells #[.slice none 0 0, .slice none 0 0] 102)) := (((Below.refl _ _).alloc (Nat.le_refl _) _).alloc (by simp) _).alloc (by simp; omega) _
  (with_reducible refine (HW.out _).mono ?_)
  rintro e w1 ⟨rfl, hb1⟩
  have hB1 : Below w.heap.size w w1 := hb0.trans (hb1.mono hb0.size)
  have hs1 : w.heap.size + 3 ≤ w1.heap.size := by have := hb1.size; simp at this; omega
  have hk1 : ∀ j c, (((w.alloc (.cells #[.int .i64 k, .int .i64 o, .int .i64 f] 38)).alloc (.cells #[.int .i64 1, .int .i64 sz, .bool sg, .bool sc, .pointer none, .int .i64 0, .int .i64 0, .slice none 0 0, .pointer none] 57)).alloc (.cells #[.slice none 0 0, .slice none 0 0] 102)).cell? ⟨w.heap.size + j, c, none⟩ = w1.cell? ⟨w.heap.size + j, c, none⟩ ∨ 3 ≤ j := fun j c => by
    by_cases hj : 3 ≤ j
    · exact Or.inr hj
    · exact Or.inl (by rw [hb1.cell (by simp; omega)])
  have a00 : w1.cell? ⟨w.heap.size, 0, none⟩ = some (.int .i64 k) := by rw [hb1.cell (by simp; try omega), World.cell?_alloc_lt _ _ _ (by simp; try omega), World.cell?_alloc_lt _ _ _ (by simp; try omega)]; simp
  have a01 : w1.cell? ⟨w.heap.size, 1, none⟩ = some (.int .i64 o) := by rw [hb1.cell (by simp; try omega), World.cell?_alloc_lt _ _ _ (by simp; try omega), World.cell?_alloc_lt _ _ _ (by simp; try omega)]; simp
  have a02 : w1.cell? ⟨w.heap.size, 2, none⟩ = some (.int .i64 f) := by rw [hb1.cell (by simp; try omega), World.cell?_alloc_lt _ _ _ (by simp; try omega), World.cell?_alloc_lt _ _ _ (by simp; try omega)]; simp
  have a10 : w1.cell? ⟨w.heap.size + 1, 0, none⟩ = some (.int .i64 1) := by rw [hb1.cell (by simp; try omega), World.cell?_alloc_lt _ _ _ (by simp; try omega)]; simp
  have a11 : w1.cell? ⟨w.heap.size + 1, 1, none⟩ = some (.int .i64 sz) := by rw [hb1.cell (by simp; try omega), World.cell?_alloc_lt _ _ _ (by simp; try omega)]; simp
  have a12 : w1.cell? ⟨w.heap.size + 1, 2, none⟩ = some (.bool sg) := by rw [hb1.cell (by simp; try omega), World.cell?_alloc_lt _ _ _ (by simp; try omega)]; simp
  have a13 : w1.cell? ⟨w.heap.size + 1, 3, none⟩ = some (.bool sc) := by rw [hb1.cell (by simp; try omega), World.cell?_alloc_lt _ _ _ (by simp; try omega)]; simp
  have a14 : w1.cell? ⟨w.heap.size + 1, 4, none⟩ = some (.pointer none) := by rw [hb1.cell (by simp; try omega), World.cell?_alloc_lt _ _ _ (by simp; try omega)]; simp
  have a15 : w1.cell? ⟨w.heap.size + 1, 5, none⟩ = some (.int .i64 0) := by rw [hb1.cell (by simp; try omega), World.cell?_alloc_lt _ _ _ (by simp; try omega)]; simp
  have a16 : w1.cell? ⟨w.heap.size + 1, 6, none⟩ = some (.int .i64 0) := by rw [hb1.cell (by simp; try omega), World.cell?_alloc_lt _ _ _ (by simp; try omega)]; simp
  have a17 : w1.cell? ⟨w.heap.size + 1, 7, none⟩ = some (.slice none 0 0) := by rw [hb1.cell (by simp; try omega), World.cell?_alloc_lt _ _ _ (by simp; try omega)]; simp
  have a18 : w1.cell? ⟨w.heap.size + 1, 8, none⟩ = some (.pointer none) := by rw [hb1.cell (by simp; try omega), World.cell?_alloc_lt _ _ _ (by simp; try omega)]; simp
  have a20 : w1.cell? ⟨w.heap.size + 2, 0, none⟩ = some (.slice none 0 0) := by rw [hb1.cell (by simp; try omega)]; exact cell_new _ _ _ _ _ (by simp)
  have a21 : w1.cell? ⟨w.heap.size + 2, 1, none⟩ = some (.slice none 0 0) := by rw [hb1.cell (by simp; try omega)]; exact cell_new _ _ _ _ _ (by simp)
  have z0 : w1.frozen? ⟨w.heap.size + 2, 0, none⟩ = false := by rw [hb1.frozen (by simp; try omega)]; exact frozen_new _ _ _ _ _ (by simp)
  have z1 : w1.frozen? ⟨w.heap.size + 2, 1, none⟩ = false := by rw [hb1.frozen (by simp; try omega)]; exact frozen_new _ _ _ _ _ (by simp)
  have HB1 := Lib.hid hB1
  clear hb0 hb1 hk1
  go_wp2_with fail
  (with_reducible refine (H.out _ hB1).mono ?_)
  rintro e w2 ⟨rfl, hb2⟩
  have HB2 : Hid (Below w.heap.size w w2) := Lib.hid (hB1.trans (hb2.mono hB1.size))
  have hs2 : w1.heap.size ≤ w2.heap.size := hb2.size
  have b00 : w2.cell? ⟨w.heap.size, 0, none⟩ = some (.int .i64 k) := by rw [hb2.cell (by show w.heap.size < w1.heap.size; omega)]; exact a00
  have b01 : w2.cell? ⟨w.heap.size, 1, none⟩ = some (.int .i64 o) := by rw [hb2.cell (by show w.heap.size < w1.heap.size; omega)]; exact a01
  have b02 : w2.cell? ⟨w.heap.size, 2, none⟩ = some (.int .i64 f) := by rw [hb2.cell (by show w.heap.size < w1.heap.size; omega)]; exact a02
  have b10 : w2.cell? ⟨w.heap.size + 1, 0, none⟩ = some (.int .i64 1) := by rw [hb2.cell (by show w.heap.size + 1 < w1.heap.size; omega)]; exact a10
  have b11 : w2.cell? ⟨w.heap.size + 1, 1, none⟩ = some (.int .i64 sz) := by rw [hb2.cell (by show w.heap.size + 1 < w1.heap.size; omega)]; exact a11
  have b12 : w2.cell? ⟨w.heap.size + 1, 2, none⟩ = some (.bool sg) := by rw [hb2.cell (by show w.heap.size + 1 < w1.heap.size; omega)]; exact a12
  have b13 : w2.cell? ⟨w.heap.size + 1, 3, none⟩ = some (.bool sc) := by rw [hb2.cell (by show w.heap.size + 1 < w1.heap.size; omega)]; exact a13
  have b14 : w2.cell? ⟨w.heap.size + 1, 4, none⟩ = some (.pointer none) := by rw [hb2.cell (by show w.heap.size + 1 < w1.heap.size; omega)]; exact a14
  have b15 : w2.cell? ⟨w.heap.size + 1, 5, none⟩ = some (.int .i64 0) := by rw [hb2.cell (by show w.heap.size + 1 < w1.heap.size; omega)]; exact a15
  have b16 : w2.cell? ⟨w.heap.size + 1, 6, none⟩ = some (.int .i64 0) := by rw [hb2.cell (by show w.heap.size + 1 < w1.heap.size; omega)]; exact a16
  have b17 : w2.cell? ⟨w.heap.size + 1, 7, none⟩ = some (.slice none 0 0) := by rw [hb2.cell (by show w.heap.size + 1 < w1.heap.size; omega)]; exact a17
  have b18 : w2.cell? ⟨w.heap.size + 1, 8, none⟩ = some (.pointer none) := by rw [hb2.cell (by show w.heap.size + 1 < w1.heap.size; omega)]; exact a18
  have b20 : w2.cell? ⟨w.heap.size + 2, 0, none⟩ = some (.slice none 0 0) := by rw [hb2.cell (by show w.heap.size + 2 < w1.heap.size; omega)]; exact a20
  have b21 : w2.cell? ⟨w.heap.size + 2, 1, none⟩ = some (.slice none 0 0) := by rw [hb2.cell (by show w.heap.size + 2 < w1.heap.size; omega)]; exact a21
  have y0 : w2.frozen? ⟨w.heap.size + 2, 0, none⟩ = false := by rw [hb2.frozen (by show w.heap.size + 2 < w1.heap.size; omega)]; exact z0
  have y1 : w2.frozen? ⟨w.heap.size + 2, 1, none⟩ = false := by rw [hb2.frozen (by show w.heap.size + 2 < w1.heap.size; omega)]; exact z1
  clear hb2 hB1 z0 z1 a00 a01 a02 a10 a11 a12 a13 a14 a15 a16 a17 a18 a20 a21
  have hl0 : w.heap.size < w2.heap.size := by omega
  have hn0 : w.heap.size ≠ w2.heap.size := by omega
  have hl1 : w.heap.size + 1 < w2.heap.size := by omega
  have hn1 : w.heap.size + 1 ≠ w2.heap.size := by omega
  have hl2 : w.heap.size + 2 < w2.heap.size := by omega
  have hn2 : w.heap.size + 2 ≠ w2.heap.size := by omega
  go_wp2_with (go_at_call 63; (with_reducible refine (HC.out _ (HB2.out.alloc (by omega) _)).mono ?_); rintro e w' ⟨rfl, rfl⟩)
  have hbv := HB2.out
  refine bodyPost_ret (v := .tuple #[(.agg #[.slice (some ⟨s, so, none⟩) sz r, .slice (some ⟨c, co, none⟩) sz r]), .bool true]) ?_ rfl ⟨rfl, ?_⟩
  · simp [results, Try.results45, go_sem, noObj, b20, b21, hl0, hl1, hl2, hn0, hn1, hn2]
  · ((repeat (first | (with_reducible exact hbv) | (with_reducible apply Below.setCell) | (with_reducible apply Below.alloc) | (with_reducible apply Below.drew))) <;> first | omega | (simp <;> omega))

set_option maxRecDepth 100000 in
set_option maxHeartbeats 8000000 in
theorem acc_int_lab (mb : Nat) (k o f : Int) (sz : Nat) (hsz : Sz sz) (sg sc : Bool) (s so c co r : Nat) (L : Nat → Bool) (hL : ∃ i, i < sz ∧ L i ≠ sc) (w : World) (h : BytesIs w mb (ptrV k o f) sz (.agg #[.slice (some ⟨s, so, none⟩) sz r, .slice (some ⟨c, co, none⟩) sz r]) true) (hlab : Labs w s so sz L) (hsl : s < w.heap.size) :
    Calls Try.prog 45 #[.pointer (some ⟨mb, 0, none⟩), ptrV k o f, tI sz sg sc] w fun e w' => e = .returned (.tuple #[noObj, .bool false]) ∧ Below w.heap.size w w' := by
  have h' := h
  unfold BytesIs ptrV at h'
  (try unfold noObj at h')
  have H := Lib.hid h'
  have hwd := fun (w : World) => width_int sz hsz sg sc w
  unfold tI at hwd
  have HW := Lib.hid hwd
  have hs0 : (sz : Int) ≠ 0 := by rcases hsz with h | h | h | h <;> omega
  have HC := Lib.hid (fun (w' : World) (hb : Below w.heap.size w w') => contains_any s so sz r L (!sc) (by rcases hsz with h | h | h | h <;> omega) w' (hlab.below hb hsl) true ⟨(fun _ => by obtain ⟨i, h1, h2⟩ := hL; exact ⟨i, h1, by revert h2; cases L i <;> cases sc <;> simp⟩), fun _ => rfl⟩)
  clear h h' hwd hlab hL
  unfold ptrV tI
  go_enter Try.func45, Try.ntmps45
  go_wp2_with fail
  have hb0 : Below w.heap.size w (((w.alloc (.cells #[.int .i64 k, .int .i64 o, .int .i64 f] 38)).alloc (.cells #[.int .i64 1, .int .i64 sz, .bool sg, .bool sc, .pointer none, .int .i64 0, .int .i64 0, .slice none 0 0, .pointer none] 57)).alloc (.cells #[.slice none 0 0, .slice none 0 0] 102)) := (((Below.refl _ _).alloc (Nat.le_refl _) _).alloc (by simp) _).alloc (by simp; omega) _
  (with_reducible refine (HW.out _).mono ?_)
  rintro e w1 ⟨rfl, hb1⟩
  have hB1 : Below w.heap.size w w1 := hb0.trans (hb1.mono hb0.size)
  have hs1 : w.heap.size + 3 ≤ w1.heap.size := by have := hb1.size; simp at this; omega
  have hk1 : ∀ j c, (((w.alloc (.cells #[.int .i64 k, .int .i64 o, .int .i64 f] 38)).alloc (.cells #[.int .i64 1, .int .i64 sz, .bool sg, .bool sc, .pointer none, .int .i64 0, .int .i64 0, .slice none 0 0, .pointer none] 57)).alloc (.cells #[.slice none 0 0, .slice none 0 0] 102)).cell? ⟨w.heap.size + j, c, none⟩ = w1.cell? ⟨w.heap.size + j, c, none⟩ ∨ 3 ≤ j := fun j c => by
    by_cases hj : 3 ≤ j
    · exact Or.inr hj
    · exact Or.inl (by rw [hb1.cell (by simp; omega)])
  have a00 : w1.cell? ⟨w.heap.size, 0, none⟩ = some (.int .i64 k) := by rw [hb1.cell (by simp; try omega), World.cell?_alloc_lt _ _ _ (by simp; try omega), World.cell?_alloc_lt _ _ _ (by simp; try omega)]; simp
  have a01 : w1.cell? ⟨w.heap.size, 1, none⟩ = some (.int .i64 o) := by rw [hb1.cell (by simp; try omega), World.cell?_alloc_lt _ _ _ (by simp; try omega), World.cell?_alloc_lt _ _ _ (by simp; try omega)]; simp
  have a02 : w1.cell? ⟨w.heap.size, 2, none⟩ = some (.int .i64 f) := by rw [hb1.cell (by simp; try omega), World.cell?_alloc_lt _ _ _ (by simp; try omega), World.cell?_alloc_lt _ _ _ (by simp; try omega)]; simp
  have a10 : w1.cell? ⟨w.heap.size + 1, 0, none⟩ = some (.int .i64 1) := by rw [hb1.cell (by simp; try omega), World.cell?_alloc_lt _ _ _ (by simp; try omega)]; simp
  have a11 : w1.cell? ⟨w.heap.size + 1, 1, none⟩ = some (.int .i64 sz) := by rw [hb1.cell (by simp; try omega), World.cell?_alloc_lt _ _ _ (by simp; try omega)]; simp
  have a12 : w1.cell? ⟨w.heap.size + 1, 2, none⟩ = some (.bool sg) := by rw [hb1.cell (by simp; try omega), World.cell?_alloc_lt _ _ _ (by simp; try omega)]; simp
  have a13 : w1.cell? ⟨w.heap.size + 1, 3, none⟩ = some (.bool sc) := by rw [hb1.cell (by simp; try omega), World.cell?_alloc_lt _ _ _ (by simp; try omega)]; simp
  have a14 : w1.cell? ⟨w.heap.size + 1, 4, none⟩ = some (.pointer none) := by rw [hb1.cell (by simp; try omega), World.cell?_alloc_lt _ _ _ (by simp; try omega)]; simp
  have a15 : w1.cell? ⟨w.heap.size + 1, 5, none⟩ = some (.int .i64 0) := by rw [hb1.cell (by simp; try omega), World.cell?_alloc_lt _ _ _ (by simp; try omega)]; simp
  have a16 : w1.cell? ⟨w.heap.size + 1, 6, none⟩ = some (.int .i64 0) := by rw [hb1.cell (by simp; try omega), World.cell?_alloc_lt _ _ _ (by simp; try omega)]; simp
  have a17 : w1.cell? ⟨w.heap.size + 1, 7, none⟩ = some (.slice none 0 0) := by rw [hb1.cell (by simp; try omega), World.cell?_alloc_lt _ _ _ (by simp; try omega)]; simp
  have a18 : w1.cell? ⟨w.heap.size + 1, 8, none⟩ = some (.pointer none) := by rw [hb1.cell (by simp; try omega), World.cell?_alloc_lt _ _ _ (by simp; try omega)]; simp
  have a20 : w1.cell? ⟨w.heap.size + 2, 0, none⟩ = some (.slice none 0 0) := by rw [hb1.cell (by simp; try omega)]; exact cell_new _ _ _ _ _ (by simp)
  have a21 : w1.cell? ⟨w.heap.size + 2, 1, none⟩ = some (.slice none 0 0) := by rw [hb1.cell (by simp; try omega)]; exact cell_new _ _ _ _ _ (by simp)
  have z0 : w1.frozen? ⟨w.heap.size + 2, 0, none⟩ = false := by rw [hb1.frozen (by simp; try omega)]; exact frozen_new _ _ _ _ _ (by simp)
  have z1 : w1.frozen? ⟨w.heap.size + 2, 1, none⟩ = false := by rw [hb1.frozen (by simp; try omega)]; exact frozen_new _ _ _ _ _ (by simp)
  have HB1 := Lib.hid hB1
  clear hb0 hb1 hk1
  go_wp2_with fail
  (with_reducible refine (H.out _ hB1).mono ?_)
  rintro e w2 ⟨rfl, hb2⟩
  have HB2 : Hid (Below w.heap.size w w2) := Lib.hid (hB1.trans (hb2.mono hB1.size))
  have hs2 : w1.heap.size ≤ w2.heap.size := hb2.size
  have b00 : w2.cell? ⟨w.heap.size, 0, none⟩ = some (.int .i64 k) := by rw [hb2.cell (by show w.heap.size < w1.heap.size; omega)]; exact a00
  have b01 : w2.cell? ⟨w.heap.size, 1, none⟩ = some (.int .i64 o) := by rw [hb2.cell (by show w.heap.size < w1.heap.size; omega)]; exact a01
  have b02 : w2.cell? ⟨w.heap.size, 2, none⟩ = some (.int .i64 f) := by rw [hb2.cell (by show w.heap.size < w1.heap.size; omega)]; exact a02
  have b10 : w2.cell? ⟨w.heap.size + 1, 0, none⟩ = some (.int .i64 1) := by rw [hb2.cell (by show w.heap.size + 1 < w1.heap.size; omega)]; exact a10
  have b11 : w2.cell? ⟨w.heap.size + 1, 1, none⟩ = some (.int .i64 sz) := by rw [hb2.cell (by show w.heap.size + 1 < w1.heap.size; omega)]; exact a11
  have b12 : w2.cell? ⟨w.heap.size + 1, 2, none⟩ = some (.bool sg) := by rw [hb2.cell (by show w.heap.size + 1 < w1.heap.size; omega)]; exact a12
  have b13 : w2.cell? ⟨w.heap.size + 1, 3, none⟩ = some (.bool sc) := by rw [hb2.cell (by show w.heap.size + 1 < w1.heap.size; omega)]; exact a13
  have b14 : w2.cell? ⟨w.heap.size + 1, 4, none⟩ = some (.pointer none) := by rw [hb2.cell (by show w.heap.size + 1 < w1.heap.size; omega)]; exact a14
  have b15 : w2.cell? ⟨w.heap.size + 1, 5, none⟩ = some (.int .i64 0) := by rw [hb2.cell (by show w.heap.size + 1 < w1.heap.size; omega)]; exact a15
  have b16 : w2.cell? ⟨w.heap.size + 1, 6, none⟩ = some (.int .i64 0) := by rw [hb2.cell (by show w.heap.size + 1 < w1.heap.size; omega)]; exact a16
  have b17 : w2.cell? ⟨w.heap.size + 1, 7, none⟩ = some (.slice none 0 0) := by rw [hb2.cell (by show w.heap.size + 1 < w1.heap.size; omega)]; exact a17
  have b18 : w2.cell? ⟨w.heap.size + 1, 8, none⟩ = some (.pointer none) := by rw [hb2.cell (by show w.heap.size + 1 < w1.heap.size; omega)]; exact a18
  have b20 : w2.cell? ⟨w.heap.size + 2, 0, none⟩ = some (.slice none 0 0) := by rw [hb2.cell (by show w.heap.size + 2 < w1.heap.size; omega)]; exact a20
  have b21 : w2.cell? ⟨w.heap.size + 2, 1, none⟩ = some (.slice none 0 0) := by rw [hb2.cell (by show w.heap.size + 2 < w1.heap.size; omega)]; exact a21
  have y0 : w2.frozen? ⟨w.heap.size + 2, 0, none⟩ = false := by rw [hb2.frozen (by show w.heap.size + 2 < w1.heap.size; omega)]; exact z0
  have y1 : w2.frozen? ⟨w.heap.size + 2, 1, none⟩ = false := by rw [hb2.frozen (by show w.heap.size + 2 < w1.heap.size; omega)]; exact z1
  clear hb2 hB1 z0 z1 a00 a01 a02 a10 a11 a12 a13 a14 a15 a16 a17 a18 a20 a21
  have hl0 : w.heap.size < w2.heap.size := by omega
  have hn0 : w.heap.size ≠ w2.heap.size := by omega
  have hl1 : w.heap.size + 1 < w2.heap.size := by omega
  have hn1 : w.heap.size + 1 ≠ w2.heap.size := by omega
  have hl2 : w.heap.size + 2 < w2.heap.size := by omega
  have hn2 : w.heap.size + 2 ≠ w2.heap.size := by omega
  go_wp2_with (go_at_call 63; (with_reducible refine (HC.out _ (HB2.out.alloc (by omega) _)).mono ?_); rintro e w' ⟨rfl, rfl⟩)
  have hbv := HB2.out
  refine bodyPost_ret (v := .tuple #[noObj, .bool false]) ?_ rfl ⟨rfl, ?_⟩
  · simp [results, Try.results45, go_sem, noObj, b20, b21, hl0, hl1, hl2, hn0, hn1, hn2]
  · ((repeat (first | (with_reducible exact hbv) | (with_reducible apply Below.setCell) | (with_reducible apply Below.alloc) | (with_reducible apply Below.drew))) <;> first | omega | (simp <;> omega))

set_option maxRecDepth 100000 in
set_option maxHeartbeats 8000000 in
theorem acc_int_no (mb : Nat) (k o f : Int) (sz : Nat) (hsz : Sz sz) (sg sc : Bool) (w : World) (h : BytesIs w mb (ptrV k o f) sz noObj false) :
    Calls Try.prog 45 #[.pointer (some ⟨mb, 0, none⟩), ptrV k o f, tI sz sg sc] w fun e w' => e = .returned (.tuple #[noObj, .bool false]) ∧ Below w.heap.size w w' := by
  have h' := h
  unfold BytesIs ptrV at h'
  (try unfold noObj at h')
  have H := Lib.hid h'
  have hwd := fun (w : World) => width_int sz hsz sg sc w
  unfold tI at hwd
  have HW := Lib.hid hwd
  have hs0 : (sz : Int) ≠ 0 := by rcases hsz with h | h | h | h <;> omega
  clear h h' hwd
  unfold ptrV tI
  go_enter Try.func45, Try.ntmps45
  go_wp2_with fail
  have hb0 : Below w.heap.size w (((w.alloc (.cells #[.int .i64 k, .int .i64 o, .int .i64 f] 38)).alloc (.cells #[.int .i64 1, .int .i64 sz, .bool sg, .bool sc, .pointer none, .int .i64 0, .int .i64 0, .slice none 0 0, .pointer none] 57)).alloc (.cells #[.slice none 0 0, .slice none 0 0] 102)) := (((Below.refl _ _).alloc (Nat.le_refl _) _).alloc (by simp) _).alloc (by simp; omega) _
  (with_reducible refine (HW.out _).mono ?_)
  rintro e w1 ⟨rfl, hb1⟩
  have hB1 : Below w.heap.size w w1 := hb0.trans (hb1.mono hb0.size)
  have hs1 : w.heap.size + 3 ≤ w1.heap.size := by have := hb1.size; simp at this; omega
  have hk1 : ∀ j c, (((w.alloc (.cells #[.int .i64 k, .int .i64 o, .int .i64 f] 38)).alloc (.cells #[.int .i64 1, .int .i64 sz, .bool sg, .bool sc, .pointer none, .int .i64 0, .int .i64 0, .slice none 0 0, .pointer none] 57)).alloc (.cells #[.slice none 0 0, .slice none 0 0] 102)).cell? ⟨w.heap.size + j, c, none⟩ = w1.cell? ⟨w.heap.size + j, c, none⟩ ∨ 3 ≤ j := fun j c => by
    by_cases hj : 3 ≤ j
    · exact Or.inr hj
    · exact Or.inl (by rw [hb1.cell (by simp; omega)])
  have a00 : w1.cell? ⟨w.heap.size, 0, none⟩ = some (.int .i64 k) := by rw [hb1.cell (by simp; try omega), World.cell?_alloc_lt _ _ _ (by simp; try omega), World.cell?_alloc_lt _ _ _ (by simp; try omega)]; simp
  have a01 : w1.cell? ⟨w.heap.size, 1, none⟩ = some (.int .i64 o) := by rw [hb1.cell (by simp; try omega), World.cell?_alloc_lt _ _ _ (by simp; try omega), World.cell?_alloc_lt _ _ _ (by simp; try omega)]; simp
  have a02 : w1.cell? ⟨w.heap.size, 2, none⟩ = some (.int .i64 f) := by rw [hb1.cell (by simp; try omega), World.cell?_alloc_lt _ _ _ (by simp; try omega), World.cell?_alloc_lt _ _ _ (by simp; try omega)]; simp
  have a10 : w1.cell? ⟨w.heap.size + 1, 0, none⟩ = some (.int .i64 1) := by rw [hb1.cell (by simp; try omega), World.cell?_alloc_lt _ _ _ (by simp; try omega)]; simp
  have a11 : w1.cell? ⟨w.heap.size + 1, 1, none⟩ = some (.int .i64 sz) := by rw [hb1.cell (by simp; try omega), World.cell?_alloc_lt _ _ _ (by simp; try omega)]; simp
  have a12 : w1.cell? ⟨w.heap.size + 1, 2, none⟩ = some (.bool sg) := by rw [hb1.cell (by simp; try omega), World.cell?_alloc_lt _ _ _ (by simp; try omega)]; simp
  have a13 : w1.cell? ⟨w.heap.size + 1, 3, none⟩ = some (.bool sc) := by rw [hb1.cell (by simp; try omega), World.cell?_alloc_lt _ _ _ (by simp; try omega)]; simp
  have a14 : w1.cell? ⟨w.heap.size + 1, 4, none⟩ = some (.pointer none) := by rw [hb1.cell (by simp; try omega), World.cell?_alloc_lt _ _ _ (by simp; try omega)]; simp
  have a15 : w1.cell? ⟨w.heap.size + 1, 5, none⟩ = some (.int .i64 0) := by rw [hb1.cell (by simp; try omega), World.cell?_alloc_lt _ _ _ (by simp; try omega)]; simp
  have a16 : w1.cell? ⟨w.heap.size + 1, 6, none⟩ = some (.int .i64 0) := by rw [hb1.cell (by simp; try omega), World.cell?_alloc_lt _ _ _ (by simp; try omega)]; simp
  have a17 : w1.cell? ⟨w.heap.size + 1, 7, none⟩ = some (.slice none 0 0) := by rw [hb1.cell (by simp; try omega), World.cell?_alloc_lt _ _ _ (by simp; try omega)]; simp
  have a18 : w1.cell? ⟨w.heap.size + 1, 8, none⟩ = some (.pointer none) := by rw [hb1.cell (by simp; try omega), World.cell?_alloc_lt _ _ _ (by simp; try omega)]; simp
  have a20 : w1.cell? ⟨w.heap.size + 2, 0, none⟩ = some (.slice none 0 0) := by rw [hb1.cell (by simp; try omega)]; exact cell_new _ _ _ _ _ (by simp)
  have a21 : w1.cell? ⟨w.heap.size + 2, 1, none⟩ = some (.slice none 0 0) := by rw [hb1.cell (by simp; try omega)]; exact cell_new _ _ _ _ _ (by simp)
  have z0 : w1.frozen? ⟨w.heap.size + 2, 0, none⟩ = false := by rw [hb1.frozen (by simp; try omega)]; exact frozen_new _ _ _ _ _ (by simp)
  have z1 : w1.frozen? ⟨w.heap.size + 2, 1, none⟩ = false := by rw [hb1.frozen (by simp; try omega)]; exact frozen_new _ _ _ _ _ (by simp)
  have HB1 := Lib.hid hB1
  clear hb0 hb1 hk1
  go_wp2_with fail
  (with_reducible refine (H.out _ hB1).mono ?_)
  rintro e w2 ⟨rfl, hb2⟩
  have HB2 : Hid (Below w.heap.size w w2) := Lib.hid (hB1.trans (hb2.mono hB1.size))
  have hs2 : w1.heap.size ≤ w2.heap.size := hb2.size
  have b00 : w2.cell? ⟨w.heap.size, 0, none⟩ = some (.int .i64 k) := by rw [hb2.cell (by show w.heap.size < w1.heap.size; omega)]; exact a00
  have b01 : w2.cell? ⟨w.heap.size, 1, none⟩ = some (.int .i64 o) := by rw [hb2.cell (by show w.heap.size < w1.heap.size; omega)]; exact a01
  have b02 : w2.cell? ⟨w.heap.size, 2, none⟩ = some (.int .i64 f) := by rw [hb2.cell (by show w.heap.size < w1.heap.size; omega)]; exact a02
  have b10 : w2.cell? ⟨w.heap.size + 1, 0, none⟩ = some (.int .i64 1) := by rw [hb2.cell (by show w.heap.size + 1 < w1.heap.size; omega)]; exact a10
  have b11 : w2.cell? ⟨w.heap.size + 1, 1, none⟩ = some (.int .i64 sz) := by rw [hb2.cell (by show w.heap.size + 1 < w1.heap.size; omega)]; exact a11
  have b12 : w2.cell? ⟨w.heap.size + 1, 2, none⟩ = some (.bool sg) := by rw [hb2.cell (by show w.heap.size + 1 < w1.heap.size; omega)]; exact a12
  have b13 : w2.cell? ⟨w.heap.size + 1, 3, none⟩ = some (.bool sc) := by rw [hb2.cell (by show w.heap.size + 1 < w1.heap.size; omega)]; exact a13
  have b14 : w2.cell? ⟨w.heap.size + 1, 4, none⟩ = some (.pointer none) := by rw [hb2.cell (by show w.heap.size + 1 < w1.heap.size; omega)]; exact a14
  have b15 : w2.cell? ⟨w.heap.size + 1, 5, none⟩ = some (.int .i64 0) := by rw [hb2.cell (by show w.heap.size + 1 < w1.heap.size; omega)]; exact a15
  have b16 : w2.cell? ⟨w.heap.size + 1, 6, none⟩ = some (.int .i64 0) := by rw [hb2.cell (by show w.heap.size + 1 < w1.heap.size; omega)]; exact a16
  have b17 : w2.cell? ⟨w.heap.size + 1, 7, none⟩ = some (.slice none 0 0) := by rw [hb2.cell (by show w.heap.size + 1 < w1.heap.size; omega)]; exact a17
  have b18 : w2.cell? ⟨w.heap.size + 1, 8, none⟩ = some (.pointer none) := by rw [hb2.cell (by show w.heap.size + 1 < w1.heap.size; omega)]; exact a18
  have b20 : w2.cell? ⟨w.heap.size + 2, 0, none⟩ = some (.slice none 0 0) := by rw [hb2.cell (by show w.heap.size + 2 < w1.heap.size; omega)]; exact a20
  have b21 : w2.cell? ⟨w.heap.size + 2, 1, none⟩ = some (.slice none 0 0) := by rw [hb2.cell (by show w.heap.size + 2 < w1.heap.size; omega)]; exact a21
  have y0 : w2.frozen? ⟨w.heap.size + 2, 0, none⟩ = false := by rw [hb2.frozen (by show w.heap.size + 2 < w1.heap.size; omega)]; exact z0
  have y1 : w2.frozen? ⟨w.heap.size + 2, 1, none⟩ = false := by rw [hb2.frozen (by show w.heap.size + 2 < w1.heap.size; omega)]; exact z1
  clear hb2 hB1 z0 z1 a00 a01 a02 a10 a11 a12 a13 a14 a15 a16 a17 a18 a20 a21
  have hl0 : w.heap.size < w2.heap.size := by omega
  have hn0 : w.heap.size ≠ w2.heap.size := by omega
  have hl1 : w.heap.size + 1 < w2.heap.size := by omega
  have hn1 : w.heap.size + 1 ≠ w2.heap.size := by omega
  have hl2 : w.heap.size + 2 < w2.heap.size := by omega
  have hn2 : w.heap.size + 2 ≠ w2.heap.size := by omega
  go_wp2_with fail
  have hbv := HB2.out
  refine bodyPost_ret (v := .tuple #[noObj, .bool false]) ?_ rfl ⟨rfl, ?_⟩
  · simp [results, Try.results45, go_sem, noObj, b20, b21, hl0, hl1, hl2, hn0, hn1, hn2]
  · ((repeat (first | (with_reducible exact hbv) | (with_reducible apply Below.setCell) | (with_reducible apply Below.alloc) | (with_reducible apply Below.drew))) <;> first | omega | (simp <;> omega))

set_option maxRecDepth 100000 in
set_option maxHeartbeats 8000000 in
theorem acc_ptr_yes (mb : Nat) (k o f : Int) (el : Option Addr) (hf : f % 8 = 0) (hf0 : 0 ≤ f) (hf1 : f ≤ 1000000000) (s so c co r : Nat) (w : World) (h : BytesIs w mb (ptrV k o f) 8 (.agg #[.slice (some ⟨s, so, none⟩) 8 r, .slice (some ⟨c, co, none⟩) 8 r]) true) (hlab : Labs w s so 8 (fun _ => false)) (hsl : s < w.heap.size) :
    Calls Try.prog 45 #[.pointer (some ⟨mb, 0, none⟩), ptrV k o f, tP el] w fun e w' => e = .returned (.tuple #[(.agg #[.slice (some ⟨s, so, none⟩) 8 r, .slice (some ⟨c, co, none⟩) 8 r]), .bool true]) ∧ Below w.heap.size w w' := by
  have h' := h
  unfold BytesIs ptrV at h'
  (try unfold noObj at h')
  have H := Lib.hid h'
  have hwd := fun (w : World) => width_ptr el w
  unfold tP at hwd
  have HW := Lib.hid hwd
  have HL := Lib.hid hlab
  have HC := Lib.hid (fun (w' : World) (hb : Below w.heap.size w w') => contains_any s so 8 r (fun _ => false) true (by omega) w' (hlab.below hb hsl) false ⟨(fun h => by cases h), fun ⟨i, _, h⟩ => by simp at h⟩)
  clear h h' hwd hlab
  unfold ptrV tP
  go_enter Try.func45, Try.ntmps45
  go_wp2_with fail
  have hb0 : Below w.heap.size w (((w.alloc (.cells #[.int .i64 k, .int .i64 o, .int .i64 f] 38)).alloc (.cells #[.int .i64 2, .int .i64 8, .bool false, .bool false, .pointer el, .int .i64 0, .int .i64 0, .slice none 0 0, .pointer none] 57)).alloc (.cells #[.slice none 0 0, .slice none 0 0] 102)) := (((Below.refl _ _).alloc (Nat.le_refl _) _).alloc (by simp) _).alloc (by simp; omega) _
  (with_reducible refine (HW.out _).mono ?_)
  rintro e w1 ⟨rfl, hb1⟩
  have hB1 : Below w.heap.size w w1 := hb0.trans (hb1.mono hb0.size)
  have hs1 : w.heap.size + 3 ≤ w1.heap.size := by have := hb1.size; simp at this; omega
  have hk1 : ∀ j c, (((w.alloc (.cells #[.int .i64 k, .int .i64 o, .int .i64 f] 38)).alloc (.cells #[.int .i64 2, .int .i64 8, .bool false, .bool false, .pointer el, .int .i64 0, .int .i64 0, .slice none 0 0, .pointer none] 57)).alloc (.cells #[.slice none 0 0, .slice none 0 0] 102)).cell? ⟨w.heap.size + j, c, none⟩ = w1.cell? ⟨w.heap.size + j, c, none⟩ ∨ 3 ≤ j := fun j c => by
    by_cases hj : 3 ≤ j
    · exact Or.inr hj
    · exact Or.inl (by rw [hb1.cell (by simp; omega)])
  have a00 : w1.cell? ⟨w.heap.size, 0, none⟩ = some (.int .i64 k) := by rw [hb1.cell (by simp; try omega), World.cell?_alloc_lt _ _ _ (by simp; try omega), World.cell?_alloc_lt _ _ _ (by simp; try omega)]; simp
  have a01 : w1.cell? ⟨w.heap.size, 1, none⟩ = some (.int .i64 o) := by rw [hb1.cell (by simp; try omega), World.cell?_alloc_lt _ _ _ (by simp; try omega), World.cell?_alloc_lt _ _ _ (by simp; try omega)]; simp
  have a02 : w1.cell? ⟨w.heap.size, 2, none⟩ = some (.int .i64 f) := by rw [hb1.cell (by simp; try omega), World.cell?_alloc_lt _ _ _ (by simp; try omega), World.cell?_alloc_lt _ _ _ (by simp; try omega)]; simp
  have a10 : w1.cell? ⟨w.heap.size + 1, 0, none⟩ = some (.int .i64 2) := by rw [hb1.cell (by simp; try omega), World.cell?_alloc_lt _ _ _ (by simp; try omega)]; simp
  have a11 : w1.cell? ⟨w.heap.size + 1, 1, none⟩ = some (.int .i64 8) := by rw [hb1.cell (by simp; try omega), World.cell?_alloc_lt _ _ _ (by simp; try omega)]; simp
  have a12 : w1.cell? ⟨w.heap.size + 1, 2, none⟩ = some (.bool false) := by rw [hb1.cell (by simp; try omega), World.cell?_alloc_lt _ _ _ (by simp; try omega)]; simp
  have a13 : w1.cell? ⟨w.heap.size + 1, 3, none⟩ = some (.bool false) := by rw [hb1.cell (by simp; try omega), World.cell?_alloc_lt _ _ _ (by simp; try omega)]; simp
  have a14 : w1.cell? ⟨w.heap.size + 1, 4, none⟩ = some (.pointer el) := by rw [hb1.cell (by simp; try omega), World.cell?_alloc_lt _ _ _ (by simp; try omega)]; simp
  have a15 : w1.cell? ⟨w.heap.size + 1, 5, none⟩ = some (.int .i64 0) := by rw [hb1.cell (by simp; try omega), World.cell?_alloc_lt _ _ _ (by simp; try omega)]; simp
  have a16 : w1.cell? ⟨w.heap.size + 1, 6, none⟩ = some (.int .i64 0) := by rw [hb1.cell (by simp; try omega), World.cell?_alloc_lt _ _ _ (by simp; try omega)]; simp
  have a17 : w1.cell? ⟨w.heap.size + 1, 7, none⟩ = some (.slice none 0 0) := by rw [hb1.cell (by simp; try omega), World.cell?_alloc_lt _ _ _ (by simp; try omega)]; simp
  have a18 : w1.cell? ⟨w.heap.size + 1, 8, none⟩ = some (.pointer none) := by rw [hb1.cell (by simp; try omega), World.cell?_alloc_lt _ _ _ (by simp; try omega)]; simp
  have a20 : w1.cell? ⟨w.heap.size + 2, 0, none⟩ = some (.slice none 0 0) := by rw [hb1.cell (by simp; try omega)]; exact cell_new _ _ _ _ _ (by simp)
  have a21 : w1.cell? ⟨w.heap.size + 2, 1, none⟩ = some (.slice none 0 0) := by rw [hb1.cell (by simp; try omega)]; exact cell_new _ _ _ _ _ (by simp)
  have z0 : w1.frozen? ⟨w.heap.size + 2, 0, none⟩ = false := by rw [hb1.frozen (by simp; try omega)]; exact frozen_new _ _ _ _ _ (by simp)
  have z1 : w1.frozen? ⟨w.heap.size + 2, 1, none⟩ = false := by rw [hb1.frozen (by simp; try omega)]; exact frozen_new _ _ _ _ _ (by simp)
  have HB1 := Lib.hid hB1
  clear hb0 hb1 hk1
  go_wp2_with fail
  (with_reducible refine (H.out _ hB1).mono ?_)
  rintro e w2 ⟨rfl, hb2⟩
  have HB2 : Hid (Below w.heap.size w w2) := Lib.hid (hB1.trans (hb2.mono hB1.size))
  have hs2 : w1.heap.size ≤ w2.heap.size := hb2.size
  have b00 : w2.cell? ⟨w.heap.size, 0, none⟩ = some (.int .i64 k) := by rw [hb2.cell (by show w.heap.size < w1.heap.size; omega)]; exact a00
  have b01 : w2.cell? ⟨w.heap.size, 1, none⟩ = some (.int .i64 o) := by rw [hb2.cell (by show w.heap.size < w1.heap.size; omega)]; exact a01
  have b02 : w2.cell? ⟨w.heap.size, 2, none⟩ = some (.int .i64 f) := by rw [hb2.cell (by show w.heap.size < w1.heap.size; omega)]; exact a02
  have b10 : w2.cell? ⟨w.heap.size + 1, 0, none⟩ = some (.int .i64 2) := by rw [hb2.cell (by show w.heap.size + 1 < w1.heap.size; omega)]; exact a10
  have b11 : w2.cell? ⟨w.heap.size + 1, 1, none⟩ = some (.int .i64 8) := by rw [hb2.cell (by show w.heap.size + 1 < w1.heap.size; omega)]; exact a11
  have b12 : w2.cell? ⟨w.heap.size + 1, 2, none⟩ = some (.bool false) := by rw [hb2.cell (by show w.heap.size + 1 < w1.heap.size; omega)]; exact a12
  have b13 : w2.cell? ⟨w.heap.size + 1, 3, none⟩ = some (.bool false) := by rw [hb2.cell (by show w.heap.size + 1 < w1.heap.size; omega)]; exact a13
  have b14 : w2.cell? ⟨w.heap.size + 1, 4, none⟩ = some (.pointer el) := by rw [hb2.cell (by show w.heap.size + 1 < w1.heap.size; omega)]; exact a14
  have b15 : w2.cell? ⟨w.heap.size + 1, 5, none⟩ = some (.int .i64 0) := by rw [hb2.cell (by show w.heap.size + 1 < w1.heap.size; omega)]; exact a15
  have b16 : w2.cell? ⟨w.heap.size + 1, 6, none⟩ = some (.int .i64 0) := by rw [hb2.cell (by show w.heap.size + 1 < w1.heap.size; omega)]; exact a16
  have b17 : w2.cell? ⟨w.heap.size + 1, 7, none⟩ = some (.slice none 0 0) := by rw [hb2.cell (by show w.heap.size + 1 < w1.heap.size; omega)]; exact a17
  have b18 : w2.cell? ⟨w.heap.size + 1, 8, none⟩ = some (.pointer none) := by rw [hb2.cell (by show w.heap.size + 1 < w1.heap.size; omega)]; exact a18
  have b20 : w2.cell? ⟨w.heap.size + 2, 0, none⟩ = some (.slice none 0 0) := by rw [hb2.cell (by show w.heap.size + 2 < w1.heap.size; omega)]; exact a20
  have b21 : w2.cell? ⟨w.heap.size + 2, 1, none⟩ = some (.slice none 0 0) := by rw [hb2.cell (by show w.heap.size + 2 < w1.heap.size; omega)]; exact a21
  have y0 : w2.frozen? ⟨w.heap.size + 2, 0, none⟩ = false := by rw [hb2.frozen (by show w.heap.size + 2 < w1.heap.size; omega)]; exact z0
  have y1 : w2.frozen? ⟨w.heap.size + 2, 1, none⟩ = false := by rw [hb2.frozen (by show w.heap.size + 2 < w1.heap.size; omega)]; exact z1
  clear hb2 hB1 z0 z1 a00 a01 a02 a10 a11 a12 a13 a14 a15 a16 a17 a18 a20 a21
  have hl0 : w.heap.size < w2.heap.size := by omega
  have hn0 : w.heap.size ≠ w2.heap.size := by omega
  have hl1 : w.heap.size + 1 < w2.heap.size := by omega
  have hn1 : w.heap.size + 1 ≠ w2.heap.size := by omega
  have hl2 : w.heap.size + 2 < w2.heap.size := by omega
  have hn2 : w.heap.size + 2 ≠ w2.heap.size := by omega
  go_wp2_with (go_at_call 63; (with_reducible refine (HC.out _ (HB2.out.alloc (by omega) _)).mono ?_); rintro e w' ⟨rfl, rfl⟩)
  have hbv := HB2.out
  refine bodyPost_ret (v := .tuple #[(.agg #[.slice (some ⟨s, so, none⟩) 8 r, .slice (some ⟨c, co, none⟩) 8 r]), .bool true]) ?_ rfl ⟨rfl, ?_⟩
  · simp [results, Try.results45, go_sem, noObj, b20, b21, hl0, hl1, hl2, hn0, hn1, hn2]
  · ((repeat (first | (with_reducible exact hbv) | (with_reducible apply Below.setCell) | (with_reducible apply Below.alloc) | (with_reducible apply Below.drew))) <;> first | omega | (simp <;> omega))

set_option maxRecDepth 100000 in
set_option maxHeartbeats 8000000 in
theorem acc_ptr_odd (mb : Nat) (k o f : Int) (el : Option Addr) (hf : ¬ f % 8 = 0) (hf0 : 0 ≤ f) (hf1 : f ≤ 1000000000) (s so c co r : Nat) (w : World) (h : BytesIs w mb (ptrV k o f) 8 (.agg #[.slice (some ⟨s, so, none⟩) 8 r, .slice (some ⟨c, co, none⟩) 8 r]) true) (hlab : Labs w s so 8 (fun _ => false)) (hsl : s < w.heap.size) :
    Calls Try.prog 45 #[.pointer (some ⟨mb, 0, none⟩), ptrV k o f, tP el] w fun e w' => e = .returned (.tuple #[noObj, .bool false]) ∧ Below w.heap.size w w' := by
  have h' := h
  unfold BytesIs ptrV at h'
  (try unfold noObj at h')
  have H := Lib.hid h'
  have hwd := fun (w : World) => width_ptr el w
  unfold tP at hwd
  have HW := Lib.hid hwd
  have HL := Lib.hid hlab
  have HC := Lib.hid (fun (w' : World) (hb : Below w.heap.size w w') => contains_any s so 8 r (fun _ => false) true (by omega) w' (hlab.below hb hsl) false ⟨(fun h => by cases h), fun ⟨i, _, h⟩ => by simp at h⟩)
  clear h h' hwd hlab
  unfold ptrV tP
  go_enter Try.func45, Try.ntmps45
  go_wp2_with fail
  have hb0 : Below w.heap.size w (((w.alloc (.cells #[.int .i64 k, .int .i64 o, .int .i64 f] 38)).alloc (.cells #[.int .i64 2, .int .i64 8, .bool false, .bool false, .pointer el, .int .i64 0, .int .i64 0, .slice none 0 0, .pointer none] 57)).alloc (.cells #[.slice none 0 0, .slice none 0 0] 102)) := (((Below.refl _ _).alloc (Nat.le_refl _) _).alloc (by simp) _).alloc (by simp; omega) _
  (with_reducible refine (HW.out _).mono ?_)
  rintro e w1 ⟨rfl, hb1⟩
  have hB1 : Below w.heap.size w w1 := hb0.trans (hb1.mono hb0.size)
  have hs1 : w.heap.size + 3 ≤ w1.heap.size := by have := hb1.size; simp at this; omega
  have hk1 : ∀ j c, (((w.alloc (.cells #[.int .i64 k, .int .i64 o, .int .i64 f] 38)).alloc (.cells #[.int .i64 2, .int .i64 8, .bool false, .bool false, .pointer el, .int .i64 0, .int .i64 0, .slice none 0 0, .pointer none] 57)).alloc (.cells #[.slice none 0 0, .slice none 0 0] 102)).cell? ⟨w.heap.size + j, c, none⟩ = w1.cell? ⟨w.heap.size + j, c, none⟩ ∨ 3 ≤ j := fun j c => by
    by_cases hj : 3 ≤ j
    · exact Or.inr hj
    · exact Or.inl (by rw [hb1.cell (by simp; omega)])
  have a00 : w1.cell? ⟨w.heap.size, 0, none⟩ = some (.int .i64 k) := by rw [hb1.cell (by simp; try omega), World.cell?_alloc_lt _ _ _ (by simp; try omega), World.cell?_alloc_lt _ _ _ (by simp; try omega)]; simp
  have a01 : w1.cell? ⟨w.heap.size, 1, none⟩ = some (.int .i64 o) := by rw [hb1.cell (by simp; try omega), World.cell?_alloc_lt _ _ _ (by simp; try omega), World.cell?_alloc_lt _ _ _ (by simp; try omega)]; simp
  have a02 : w1.cell? ⟨w.heap.size, 2, none⟩ = some (.int .i64 f) := by rw [hb1.cell (by simp; try omega), World.cell?_alloc_lt _ _ _ (by simp; try omega), World.cell?_alloc_lt _ _ _ (by simp; try omega)]; simp
  have a10 : w1.cell? ⟨w.heap.size + 1, 0, none⟩ = some (.int .i64 2) := by rw [hb1.cell (by simp; try omega), World.cell?_alloc_lt _ _ _ (by simp; try omega)]; simp
  have a11 : w1.cell? ⟨w.heap.size + 1, 1, none⟩ = some (.int .i64 8) := by rw [hb1.cell (by simp; try omega), World.cell?_alloc_lt _ _ _ (by simp; try omega)]; simp
  have a12 : w1.cell? ⟨w.heap.size + 1, 2, none⟩ = some (.bool false) := by rw [hb1.cell (by simp; try omega), World.cell?_alloc_lt _ _ _ (by simp; try omega)]; simp
  have a13 : w1.cell? ⟨w.heap.size + 1, 3, none⟩ = some (.bool false) := by rw [hb1.cell (by simp; try omega), World.cell?_alloc_lt _ _ _ (by simp; try omega)]; simp
  have a14 : w1.cell? ⟨w.heap.size + 1, 4, none⟩ = some (.pointer el) := by rw [hb1.cell (by simp; try omega), World.cell?_alloc_lt _ _ _ (by simp; try omega)]; simp
  have a15 : w1.cell? ⟨w.heap.size + 1, 5, none⟩ = some (.int .i64 0) := by rw [hb1.cell (by simp; try omega), World.cell?_alloc_lt _ _ _ (by simp; try omega)]; simp
  have a16 : w1.cell? ⟨w.heap.size + 1, 6, none⟩ = some (.int .i64 0) := by rw [hb1.cell (by simp; try omega), World.cell?_alloc_lt _ _ _ (by simp; try omega)]; simp
  have a17 : w1.cell? ⟨w.heap.size + 1, 7, none⟩ = some (.slice none 0 0) := by rw [hb1.cell (by simp; try omega), World.cell?_alloc_lt _ _ _ (by simp; try omega)]; simp
  have a18 : w1.cell? ⟨w.heap.size + 1, 8, none⟩ = some (.pointer none) := by rw [hb1.cell (by simp; try omega), World.cell?_alloc_lt _ _ _ (by simp; try omega)]; simp
  have a20 : w1.cell? ⟨w.heap.size + 2, 0, none⟩ = some (.slice none 0 0) := by rw [hb1.cell (by simp; try omega)]; exact cell_new _ _ _ _ _ (by simp)
  have a21 : w1.cell? ⟨w.heap.size + 2, 1, none⟩ = some (.slice none 0 0) := by rw [hb1.cell (by simp; try omega)]; exact cell_new _ _ _ _ _ (by simp)
  have z0 : w1.frozen? ⟨w.heap.size + 2, 0, none⟩ = false := by rw [hb1.frozen (by simp; try omega)]; exact frozen_new _ _ _ _ _ (by simp)
  have z1 : w1.frozen? ⟨w.heap.size + 2, 1, none⟩ = false := by rw [hb1.frozen (by simp; try omega)]; exact frozen_new _ _ _ _ _ (by simp)
  have HB1 := Lib.hid hB1
  clear hb0 hb1 hk1
  go_wp2_with fail
  (with_reducible refine (H.out _ hB1).mono ?_)
  rintro e w2 ⟨rfl, hb2⟩
  have HB2 : Hid (Below w.heap.size w w2) := Lib.hid (hB1.trans (hb2.mono hB1.size))
  have hs2 : w1.heap.size ≤ w2.heap.size := hb2.size
  have b00 : w2.cell? ⟨w.heap.size, 0, none⟩ = some (.int .i64 k) := by rw [hb2.cell (by show w.heap.size < w1.heap.size; omega)]; exact a00
  have b01 : w2.cell? ⟨w.heap.size, 1, none⟩ = some (.int .i64 o) := by rw [hb2.cell (by show w.heap.size < w1.heap.size; omega)]; exact a01
  have b02 : w2.cell? ⟨w.heap.size, 2, none⟩ = some (.int .i64 f) := by rw [hb2.cell (by show w.heap.size < w1.heap.size; omega)]; exact a02
  have b10 : w2.cell? ⟨w.heap.size + 1, 0, none⟩ = some (.int .i64 2) := by rw [hb2.cell (by show w.heap.size + 1 < w1.heap.size; omega)]; exact a10
  have b11 : w2.cell? ⟨w.heap.size + 1, 1, none⟩ = some (.int .i64 8) := by rw [hb2.cell (by show w.heap.size + 1 < w1.heap.size; omega)]; exact a11
  have b12 : w2.cell? ⟨w.heap.size + 1, 2, none⟩ = some (.bool false) := by rw [hb2.cell (by show w.heap.size + 1 < w1.heap.size; omega)]; exact a12
  have b13 : w2.cell? ⟨w.heap.size + 1, 3, none⟩ = some (.bool false) := by rw [hb2.cell (by show w.heap.size + 1 < w1.heap.size; omega)]; exact a13
  have b14 : w2.cell? ⟨w.heap.size + 1, 4, none⟩ = some (.pointer el) := by rw [hb2.cell (by show w.heap.size + 1 < w1.heap.size; omega)]; exact a14
  have b15 : w2.cell? ⟨w.heap.size + 1, 5, none⟩ = some (.int .i64 0) := by rw [hb2.cell (by show w.heap.size + 1 < w1.heap.size; omega)]; exact a15
  have b16 : w2.cell? ⟨w.heap.size + 1, 6, none⟩ = some (.int .i64 0) := by rw [hb2.cell (by show w.heap.size + 1 < w1.heap.size; omega)]; exact a16
  have b17 : w2.cell? ⟨w.heap.size + 1, 7, none⟩ = some (.slice none 0 0) := by rw [hb2.cell (by show w.heap.size + 1 < w1.heap.size; omega)]; exact a17
  have b18 : w2.cell? ⟨w.heap.size + 1, 8, none⟩ = some (.pointer none) := by rw [hb2.cell (by show w.heap.size + 1 < w1.heap.size; omega)]; exact a18
  have b20 : w2.cell? ⟨w.heap.size + 2, 0, none⟩ = some (.slice none 0 0) := by rw [hb2.cell (by show w.heap.size + 2 < w1.heap.size; omega)]; exact a20
  have b21 : w2.cell? ⟨w.heap.size + 2, 1, none⟩ = some (.slice none 0 0) := by rw [hb2.cell (by show w.heap.size + 2 < w1.heap.size; omega)]; exact a21
  have y0 : w2.frozen? ⟨w.heap.size + 2, 0, none⟩ = false := by rw [hb2.frozen (by show w.heap.size + 2 < w1.heap.size; omega)]; exact z0
  have y1 : w2.frozen? ⟨w.heap.size + 2, 1, none⟩ = false := by rw [hb2.frozen (by show w.heap.size + 2 < w1.heap.size; omega)]; exact z1
  clear hb2 hB1 z0 z1 a00 a01 a02 a10 a11 a12 a13 a14 a15 a16 a17 a18 a20 a21
  have hl0 : w.heap.size < w2.heap.size := by omega
  have hn0 : w.heap.size ≠ w2.heap.size := by omega
  have hl1 : w.heap.size + 1 < w2.heap.size := by omega
  have hn1 : w.heap.size + 1 ≠ w2.heap.size := by omega
  have hl2 : w.heap.size + 2 < w2.heap.size := by omega
  have hn2 : w.heap.size + 2 ≠ w2.heap.size := by omega
  go_wp2_with (go_at_call 63; (with_reducible refine (HC.out _ (HB2.out.alloc (by omega) _)).mono ?_); rintro e w' ⟨rfl, rfl⟩)
  have hbv := HB2.out
  refine bodyPost_ret (v := .tuple #[noObj, .bool false]) ?_ rfl ⟨rfl, ?_⟩
  · simp [results, Try.results45, go_sem, noObj, b20, b21, hl0, hl1, hl2, hn0, hn1, hn2]
  · ((repeat (first | (with_reducible exact hbv) | (with_reducible apply Below.setCell) | (with_reducible apply Below.alloc) | (with_reducible apply Below.drew))) <;> first | omega | (simp <;> omega))

set_option maxRecDepth 100000 in
set_option maxHeartbeats 8000000 in
theorem acc_ptr_lab (mb : Nat) (k o f : Int) (el : Option Addr) (hf : f % 8 = 0) (hf0 : 0 ≤ f) (hf1 : f ≤ 1000000000) (s so c co r : Nat) (L : Nat → Bool) (hL : ∃ i, i < 8 ∧ L i ≠ false) (w : World) (h : BytesIs w mb (ptrV k o f) 8 (.agg #[.slice (some ⟨s, so, none⟩) 8 r, .slice (some ⟨c, co, none⟩) 8 r]) true) (hlab : Labs w s so 8 L) (hsl : s < w.heap.size) :
    Calls Try.prog 45 #[.pointer (some ⟨mb, 0, none⟩), ptrV k o f, tP el] w fun e w' => e = .returned (.tuple #[noObj, .bool false]) ∧ Below w.heap.size w w' := by
  have h' := h
  unfold BytesIs ptrV at h'
  (try unfold noObj at h')
  have H := Lib.hid h'
  have hwd := fun (w : World) => width_ptr el w
  unfold tP at hwd
  have HW := Lib.hid hwd
  have HC := Lib.hid (fun (w' : World) (hb : Below w.heap.size w w') => contains_any s so 8 r L true (by omega) w' (hlab.below hb hsl) true ⟨(fun _ => by obtain ⟨i, h1, h2⟩ := hL; exact ⟨i, h1, by revert h2; cases L i <;> simp⟩), fun _ => rfl⟩)
  clear h h' hwd hlab hL
  unfold ptrV tP
  go_enter Try.func45, Try.ntmps45
  go_wp2_with fail
  have hb0 : Below w.heap.size w (((w.alloc (.cells #[.int .i64 k, .int .i64 o, .int .i64 f] 38)).alloc (.cells #[.int .i64 2, .int .i64 8, .bool false, .bool false, .pointer el, .int .i64 0, .int .i64 0, .slice none 0 0, .pointer none] 57)).alloc (.cells #[.slice none 0 0, .slice none 0 0] 102)) := (((Below.refl _ _).alloc (Nat.le_refl _) _).alloc (by simp) _).alloc (by simp; omega) _
  (with_reducible refine (HW.out _).mono ?_)
  rintro e w1 ⟨rfl, hb1⟩
  have hB1 : Below w.heap.size w w1 := hb0.trans (hb1.mono hb0.size)
  have hs1 : w.heap.size + 3 ≤ w1.heap.size := by have := hb1.size; simp at this; omega
  have hk1 : ∀ j c, (((w.alloc (.cells #[.int .i64 k, .int .i64 o, .int .i64 f] 38)).alloc (.cells #[.int .i64 2, .int .i64 8, .bool false, .bool false, .pointer el, .int .i64 0, .int .i64 0, .slice none 0 0, .pointer none] 57)).alloc (.cells #[.slice none 0 0, .slice none 0 0] 102)).cell? ⟨w.heap.size + j, c, none⟩ = w1.cell? ⟨w.heap.size + j, c, none⟩ ∨ 3 ≤ j := fun j c => by
    by_cases hj : 3 ≤ j
    · exact Or.inr hj
    · exact Or.inl (by rw [hb1.cell (by simp; omega)])
  have a00 : w1.cell? ⟨w.heap.size, 0, none⟩ = some (.int .i64 k) := by rw [hb1.cell (by simp; try omega), World.cell?_alloc_lt _ _ _ (by simp; try omega), World.cell?_alloc_lt _ _ _ (by simp; try omega)]; simp
  have a01 : w1.cell? ⟨w.heap.size, 1, none⟩ = some (.int .i64 o) := by rw [hb1.cell (by simp; try omega), World.cell?_alloc_lt _ _ _ (by simp; try omega), World.cell?_alloc_lt _ _ _ (by simp; try omega)]; simp
  have a02 : w1.cell? ⟨w.heap.size, 2, none⟩ = some (.int .i64 f) := by rw [hb1.cell (by simp; try omega), World.cell?_alloc_lt _ _ _ (by simp; try omega), World.cell?_alloc_lt _ _ _ (by simp; try omega)]; simp
  have a10 : w1.cell? ⟨w.heap.size + 1, 0, none⟩ = some (.int .i64 2) := by rw [hb1.cell (by simp; try omega), World.cell?_alloc_lt _ _ _ (by simp; try omega)]; simp
  have a11 : w1.cell? ⟨w.heap.size + 1, 1, none⟩ = some (.int .i64 8) := by rw [hb1.cell (by simp; try omega), World.cell?_alloc_lt _ _ _ (by simp; try omega)]; simp
  have a12 : w1.cell? ⟨w.heap.size + 1, 2, none⟩ = some (.bool false) := by rw [hb1.cell (by simp; try omega), World.cell?_alloc_lt _ _ _ (by simp; try omega)]; simp
  have a13 : w1.cell? ⟨w.heap.size + 1, 3, none⟩ = some (.bool false) := by rw [hb1.cell (by simp; try omega), World.cell?_alloc_lt _ _ _ (by simp; try omega)]; simp
  have a14 : w1.cell? ⟨w.heap.size + 1, 4, none⟩ = some (.pointer el) := by rw [hb1.cell (by simp; try omega), World.cell?_alloc_lt _ _ _ (by simp; try omega)]; simp
  have a15 : w1.cell? ⟨w.heap.size + 1, 5, none⟩ = some (.int .i64 0) := by rw [hb1.cell (by simp; try omega), World.cell?_alloc_lt _ _ _ (by simp; try omega)]; simp
  have a16 : w1.cell? ⟨w.heap.size + 1, 6, none⟩ = some (.int .i64 0) := by rw [hb1.cell (by simp; try omega), World.cell?_alloc_lt _ _ _ (by simp; try omega)]; simp
  have a17 : w1.cell? ⟨w.heap.size + 1, 7, none⟩ = some (.slice none 0 0) := by rw [hb1.cell (by simp; try omega), World.cell?_alloc_lt _ _ _ (by simp; try omega)]; simp
  have a18 : w1.cell? ⟨w.heap.size + 1, 8, none⟩ = some (.pointer none) := by rw [hb1.cell (by simp; try omega), World.cell?_alloc_lt _ _ _ (by simp; try omega)]; simp
  have a20 : w1.cell? ⟨w.heap.size + 2, 0, none⟩ = some (.slice none 0 0) := by rw [hb1.cell (by simp; try omega)]; exact cell_new _ _ _ _ _ (by simp)
  have a21 : w1.cell? ⟨w.heap.size + 2, 1, none⟩ = some (.slice none 0 0) := by rw [hb1.cell (by simp; try omega)]; exact cell_new _ _ _ _ _ (by simp)
  have z0 : w1.frozen? ⟨w.heap.size + 2, 0, none⟩ = false := by rw [hb1.frozen (by simp; try omega)]; exact frozen_new _ _ _ _ _ (by simp)
  have z1 : w1.frozen? ⟨w.heap.size + 2, 1, none⟩ = false := by rw [hb1.frozen (by simp; try omega)]; exact frozen_new _ _ _ _ _ (by simp)
  have HB1 := Lib.hid hB1
  clear hb0 hb1 hk1
  go_wp2_with fail
  (with_reducible refine (H.out _ hB1).mono ?_)
  rintro e w2 ⟨rfl, hb2⟩
  have HB2 : Hid (Below w.heap.size w w2) := Lib.hid (hB1.trans (hb2.mono hB1.size))
  have hs2 : w1.heap.size ≤ w2.heap.size := hb2.size
  have b00 : w2.cell? ⟨w.heap.size, 0, none⟩ = some (.int .i64 k) := by rw [hb2.cell (by show w.heap.size < w1.heap.size; omega)]; exact a00
  have b01 : w2.cell? ⟨w.heap.size, 1, none⟩ = some (.int .i64 o) := by rw [hb2.cell (by show w.heap.size < w1.heap.size; omega)]; exact a01
  have b02 : w2.cell? ⟨w.heap.size, 2, none⟩ = some (.int .i64 f) := by rw [hb2.cell (by show w.heap.size < w1.heap.size; omega)]; exact a02
  have b10 : w2.cell? ⟨w.heap.size + 1, 0, none⟩ = some (.int .i64 2) := by rw [hb2.cell (by show w.heap.size + 1 < w1.heap.size; omega)]; exact a10
  have b11 : w2.cell? ⟨w.heap.size + 1, 1, none⟩ = some (.int .i64 8) := by rw [hb2.cell (by show w.heap.size + 1 < w1.heap.size; omega)]; exact a11
  have b12 : w2.cell? ⟨w.heap.size + 1, 2, none⟩ = some (.bool false) := by rw [hb2.cell (by show w.heap.size + 1 < w1.heap.size; omega)]; exact a12
  have b13 : w2.cell? ⟨w.heap.size + 1, 3, none⟩ = some (.bool false) := by rw [hb2.cell (by show w.heap.size + 1 < w1.heap.size; omega)]; exact a13
  have b14 : w2.cell? ⟨w.heap.size + 1, 4, none⟩ = some (.pointer el) := by rw [hb2.cell (by show w.heap.size + 1 < w1.heap.size; omega)]; exact a14
  have b15 : w2.cell? ⟨w.heap.size + 1, 5, none⟩ = some (.int .i64 0) := by rw [hb2.cell (by show w.heap.size + 1 < w1.heap.size; omega)]; exact a15
  have b16 : w2.cell? ⟨w.heap.size + 1, 6, none⟩ = some (.int .i64 0) := by rw [hb2.cell (by show w.heap.size + 1 < w1.heap.size; omega)]; exact a16
  have b17 : w2.cell? ⟨w.heap.size + 1, 7, none⟩ = some (.slice none 0 0) := by rw [hb2.cell (by show w.heap.size + 1 < w1.heap.size; omega)]; exact a17
  have b18 : w2.cell? ⟨w.heap.size + 1, 8, none⟩ = some (.pointer none) := by rw [hb2.cell (by show w.heap.size + 1 < w1.heap.size; omega)]; exact a18
  have b20 : w2.cell? ⟨w.heap.size + 2, 0, none⟩ = some (.slice none 0 0) := by rw [hb2.cell (by show w.heap.size + 2 < w1.heap.size; omega)]; exact a20
  have b21 : w2.cell? ⟨w.heap.size + 2, 1, none⟩ = some (.slice none 0 0) := by rw [hb2.cell (by show w.heap.size + 2 < w1.heap.size; omega)]; exact a21
  have y0 : w2.frozen? ⟨w.heap.size + 2, 0, none⟩ = false := by rw [hb2.frozen (by show w.heap.size + 2 < w1.heap.size; omega)]; exact z0
  have y1 : w2.frozen? ⟨w.heap.size + 2, 1, none⟩ = false := by rw [hb2.frozen (by show w.heap.size + 2 < w1.heap.size; omega)]; exact z1
  clear hb2 hB1 z0 z1 a00 a01 a02 a10 a11 a12 a13 a14 a15 a16 a17 a18 a20 a21
  have hl0 : w.heap.size < w2.heap.size := by omega
  have hn0 : w.heap.size ≠ w2.heap.size := by omega
  have hl1 : w.heap.size + 1 < w2.heap.size := by omega
  have hn1 : w.heap.size + 1 ≠ w2.heap.size := by omega
  have hl2 : w.heap.size + 2 < w2.heap.size := by omega
  have hn2 : w.heap.size + 2 ≠ w2.heap.size := by omega
  go_wp2_with (go_at_call 63; (with_reducible refine (HC.out _ (HB2.out.alloc (by omega) _)).mono ?_); rintro e w' ⟨rfl, rfl⟩)
  have hbv := HB2.out
  refine bodyPost_ret (v := .tuple #[noObj, .bool false]) ?_ rfl ⟨rfl, ?_⟩
  · simp [results, Try.results45, go_sem, noObj, b20, b21, hl0, hl1, hl2, hn0, hn1, hn2]
  · ((repeat (first | (with_reducible exact hbv) | (with_reducible apply Below.setCell) | (with_reducible apply Below.alloc) | (with_reducible apply Below.drew))) <;> first | omega | (simp <;> omega))

set_option maxRecDepth 100000 in
set_option maxHeartbeats 8000000 in
theorem acc_ptr_no (mb : Nat) (k o f : Int) (el : Option Addr) (w : World) (h : BytesIs w mb (ptrV k o f) 8 noObj false) :
    Calls Try.prog 45 #[.pointer (some ⟨mb, 0, none⟩), ptrV k o f, tP el] w fun e w' => e = .returned (.tuple #[noObj, .bool false]) ∧ Below w.heap.size w w' := by
  have h' := h
  unfold BytesIs ptrV at h'
  (try unfold noObj at h')
  have H := Lib.hid h'
  have hwd := fun (w : World) => width_ptr el w
  unfold tP at hwd
  have HW := Lib.hid hwd
  clear h h' hwd
  unfold ptrV tP
  go_enter Try.func45, Try.ntmps45
  go_wp2_with fail
  have hb0 : Below w.heap.size w (((w.alloc (.cells #[.int .i64 k, .int .i64 o, .int .i64 f] 38)).alloc (.cells #[.int .i64 2, .int .i64 8, .bool false, .bool false, .pointer el, .int .i64 0, .int .i64 0, .slice none 0 0, .pointer none] 57)).alloc (.cells #[.slice none 0 0, .slice none 0 0] 102)) := (((Below.refl _ _).alloc (Nat.le_refl _) _).alloc (by simp) _).alloc (by simp; omega) _
  (with_reducible refine (HW.out _).mono ?_)
  rintro e w1 ⟨rfl, hb1⟩
  have hB1 : Below w.heap.size w w1 := hb0.trans (hb1.mono hb0.size)
  have hs1 : w.heap.size + 3 ≤ w1.heap.size := by have := hb1.size; simp at this; omega
  have hk1 : ∀ j c, (((w.alloc (.cells #[.int .i64 k, .int .i64 o, .int .i64 f] 38)).alloc (.cells #[.int .i64 2, .int .i64 8, .bool false, .bool false, .pointer el, .int .i64 0, .int .i64 0, .slice none 0 0, .pointer none] 57)).alloc (.cells #[.slice none 0 0, .slice none 0 0] 102)).cell? ⟨w.heap.size + j, c, none⟩ = w1.cell? ⟨w.heap.size + j, c, none⟩ ∨ 3 ≤ j := fun j c => by
    by_cases hj : 3 ≤ j
    · exact Or.inr hj
    · exact Or.inl (by rw [hb1.cell (by simp; omega)])
  have a00 : w1.cell? ⟨w.heap.size, 0, none⟩ = some (.int .i64 k) := by rw [hb1.cell (by simp; try omega), World.cell?_alloc_lt _ _ _ (by simp; try omega), World.cell?_alloc_lt _ _ _ (by simp; try omega)]; simp
  have a01 : w1.cell? ⟨w.heap.size, 1, none⟩ = some (.int .i64 o) := by rw [hb1.cell (by simp; try omega), World.cell?_alloc_lt _ _ _ (by simp; try omega), World.cell?_alloc_lt _ _ _ (by simp; try omega)]; simp
  have a02 : w1.cell? ⟨w.heap.size, 2, none⟩ = some (.int .i64 f) := by rw [hb1.cell (by simp; try omega), World.cell?_alloc_lt _ _ _ (by simp; try omega), World.cell?_alloc_lt _ _ _ (by simp; try omega)]; simp
  have a10 : w1.cell? ⟨w.heap.size + 1, 0, none⟩ = some (.int .i64 2) := by rw [hb1.cell (by simp; try omega), World.cell?_alloc_lt _ _ _ (by simp; try omega)]; simp
  have a11 : w1.cell? ⟨w.heap.size + 1, 1, none⟩ = some (.int .i64 8) := by rw [hb1.cell (by simp; try omega), World.cell?_alloc_lt _ _ _ (by simp; try omega)]; simp
  have a12 : w1.cell? ⟨w.heap.size + 1, 2, none⟩ = some (.bool false) := by rw [hb1.cell (by simp; try omega), World.cell?_alloc_lt _ _ _ (by simp; try omega)]; simp
  have a13 : w1.cell? ⟨w.heap.size + 1, 3, none⟩ = some (.bool false) := by rw [hb1.cell (by simp; try omega), World.cell?_alloc_lt _ _ _ (by simp; try omega)]; simp
  have a14 : w1.cell? ⟨w.heap.size + 1, 4, none⟩ = some (.pointer el) := by rw [hb1.cell (by simp; try omega), World.cell?_alloc_lt _ _ _ (by simp; try omega)]; simp
  have a15 : w1.cell? ⟨w.heap.size + 1, 5, none⟩ = some (.int .i64 0) := by rw [hb1.cell (by simp; try omega), World.cell?_alloc_lt _ _ _ (by simp; try omega)]; simp
  have a16 : w1.cell? ⟨w.heap.size + 1, 6, none⟩ = some (.int .i64 0) := by rw [hb1.cell (by simp; try omega), World.cell?_alloc_lt _ _ _ (by simp; try omega)]; simp
  have a17 : w1.cell? ⟨w.heap.size + 1, 7, none⟩ = some (.slice none 0 0) := by rw [hb1.cell (by simp; try omega), World.cell?_alloc_lt _ _ _ (by simp; try omega)]; simp
  have a18 : w1.cell? ⟨w.heap.size + 1, 8, none⟩ = some (.pointer none) := by rw [hb1.cell (by simp; try omega), World.cell?_alloc_lt _ _ _ (by simp; try omega)]; simp
  have a20 : w1.cell? ⟨w.heap.size + 2, 0, none⟩ = some (.slice none 0 0) := by rw [hb1.cell (by simp; try omega)]; exact cell_new _ _ _ _ _ (by simp)
  have a21 : w1.cell? ⟨w.heap.size + 2, 1, none⟩ = some (.slice none 0 0) := by rw [hb1.cell (by simp; try omega)]; exact cell_new _ _ _ _ _ (by simp)
  have z0 : w1.frozen? ⟨w.heap.size + 2, 0, none⟩ = false := by rw [hb1.frozen (by simp; try omega)]; exact frozen_new _ _ _ _ _ (by simp)
  have z1 : w1.frozen? ⟨w.heap.size + 2, 1, none⟩ = false := by rw [hb1.frozen (by simp; try omega)]; exact frozen_new _ _ _ _ _ (by simp)
  have HB1 := Lib.hid hB1
  clear hb0 hb1 hk1
  go_wp2_with fail
  (with_reducible refine (H.out _ hB1).mono ?_)
  rintro e w2 ⟨rfl, hb2⟩
  have HB2 : Hid (Below w.heap.size w w2) := Lib.hid (hB1.trans (hb2.mono hB1.size))
  have hs2 : w1.heap.size ≤ w2.heap.size := hb2.size
  have b00 : w2.cell? ⟨w.heap.size, 0, none⟩ = some (.int .i64 k) := by rw [hb2.cell (by show w.heap.size < w1.heap.size; omega)]; exact a00
  have b01 : w2.cell? ⟨w.heap.size, 1, none⟩ = some (.int .i64 o) := by rw [hb2.cell (by show w.heap.size < w1.heap.size; omega)]; exact a01
  have b02 : w2.cell? ⟨w.heap.size, 2, none⟩ = some (.int .i64 f) := by rw [hb2.cell (by show w.heap.size < w1.heap.size; omega)]; exact a02
  have b10 : w2.cell? ⟨w.heap.size + 1, 0, none⟩ = some (.int .i64 2) := by rw [hb2.cell (by show w.heap.size + 1 < w1.heap.size; omega)]; exact a10
  have b11 : w2.cell? ⟨w.heap.size + 1, 1, none⟩ = some (.int .i64 8) := by rw [hb2.cell (by show w.heap.size + 1 < w1.heap.size; omega)]; exact a11
  have b12 : w2.cell? ⟨w.heap.size + 1, 2, none⟩ = some (.bool false) := by rw [hb2.cell (by show w.heap.size + 1 < w1.heap.size; omega)]; exact a12
  have b13 : w2.cell? ⟨w.heap.size + 1, 3, none⟩ = some (.bool false) := by rw [hb2.cell (by show w.heap.size + 1 < w1.heap.size; omega)]; exact a13
  have b14 : w2.cell? ⟨w.heap.size + 1, 4, none⟩ = some (.pointer el) := by rw [hb2.cell (by show w.heap.size + 1 < w1.heap.size; omega)]; exact a14
  have b15 : w2.cell? ⟨w.heap.size + 1, 5, none⟩ = some (.int .i64 0) := by rw [hb2.cell (by show w.heap.size + 1 < w1.heap.size; omega)]; exact a15
  have b16 : w2.cell? ⟨w.heap.size + 1, 6, none⟩ = some (.int .i64 0) := by rw [hb2.cell (by show w.heap.size + 1 < w1.heap.size; omega)]; exact a16
  have b17 : w2.cell? ⟨w.heap.size + 1, 7, none⟩ = some (.slice none 0 0) := by rw [hb2.cell (by show w.heap.size + 1 < w1.heap.size; omega)]; exact a17
  have b18 : w2.cell? ⟨w.heap.size + 1, 8, none⟩ = some (.pointer none) := by rw [hb2.cell (by show w.heap.size + 1 < w1.heap.size; omega)]; exact a18
  have b20 : w2.cell? ⟨w.heap.size + 2, 0, none⟩ = some (.slice none 0 0) := by rw [hb2.cell (by show w.heap.size + 2 < w1.heap.size; omega)]; exact a20
  have b21 : w2.cell? ⟨w.heap.size + 2, 1, none⟩ = some (.slice none 0 0) := by rw [hb2.cell (by show w.heap.size + 2 < w1.heap.size; omega)]; exact a21
  have y0 : w2.frozen? ⟨w.heap.size + 2, 0, none⟩ = false := by rw [hb2.frozen (by show w.heap.size + 2 < w1.heap.size; omega)]; exact z0
  have y1 : w2.frozen? ⟨w.heap.size + 2, 1, none⟩ = false := by rw [hb2.frozen (by show w.heap.size + 2 < w1.heap.size; omega)]; exact z1
  clear hb2 hB1 z0 z1 a00 a01 a02 a10 a11 a12 a13 a14 a15 a16 a17 a18 a20 a21
  have hl0 : w.heap.size < w2.heap.size := by omega
  have hn0 : w.heap.size ≠ w2.heap.size := by omega
  have hl1 : w.heap.size + 1 < w2.heap.size := by omega
  have hn1 : w.heap.size + 1 ≠ w2.heap.size := by omega
  have hl2 : w.heap.size + 2 < w2.heap.size := by omega
  have hn2 : w.heap.size + 2 ≠ w2.heap.size := by omega
  go_wp2_with fail
  have hbv := HB2.out
  refine bodyPost_ret (v := .tuple #[noObj, .bool false]) ?_ rfl ⟨rfl, ?_⟩
  · simp [results, Try.results45, go_sem, noObj, b20, b21, hl0, hl1, hl2, hn0, hn1, hn2]
  · ((repeat (first | (with_reducible exact hbv) | (with_reducible apply Below.setCell) | (with_reducible apply Below.alloc) | (with_reducible apply Below.drew))) <;> first | omega | (simp <;> omega))
end Go.Proofs.Ytdkhanjfncbfnaa
