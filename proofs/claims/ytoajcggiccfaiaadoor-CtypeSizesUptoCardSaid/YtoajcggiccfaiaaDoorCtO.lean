import Derived.Test.YtoajcggiccfaiaaDoorCtK
namespace Go.Proofs.YtoajcggiccfaiaaDoor
open Go Go.RowKit

set_option maxHeartbeats 4000000 in
theorem field_found (tb rb rc n fc m : Nat) (g : Nat) (nm : ByteArray) (sz al : Int) (NM : Nat → ByteArray) (SZ AT : Nat → Int) (hn : n ≤ 20) (hm : m < n) (w : World) (h : TabOne w tb rb rc nm (some ⟨g, 0, none⟩) n fc sz al) (hg : g < w.heap.size) (hr : FRow w g n NM SZ AT)
    (hne : ∀ k, k < m → ((NM k).toList == (NM m).toList) = false) :
    Calls Tryd.prog 15 #[.pointer (some ⟨tb, 0, none⟩), .int .i64 0, .string (NM m)] w (TupRes (.tuple #[fldV (NM m) (SZ m) (AT m), .bool true]) w) := by
  have k0 := World.block_lt_of_cell? w _ h.t
  have k1 := World.block_lt_of_cell? w _ h.c0
  simp at k0 k1
  have H := Lib.hid h
  have HR := Lib.hid hr
  have HN := Lib.hid hne
  clear h hr hne
  go_enter Tryd.func15, Tryd.ntmps15
  go_wp2_with fail
  generalize hW : w.alloc (.cells #[.string ⟨#[]⟩, .int .i64 0, .int .i64 0, .bool false, .bool false, .pointer none, .int .i64 0, .int .i64 0, .slice none 0 0, .pointer none, .int .i64 0] 45) = W
  have hB0 : Below w.heap.size w W := by rw [← hW]; exact (Below.refl _ _).alloc (Nat.le_refl _) _
  have hsW : W.heap.size = w.heap.size + 1 := by rw [← hW]; simp
  have HB0 := Lib.hid hB0
  have HSW := Lib.hid hsW
  have hrc : RCells W w.heap.size := by rw [← hW]; constructor <;> simp
  have HRC := Lib.hid hrc
  clear hB0 hsW hrc hW
  refine (record_one tb rb rc nm (some ⟨g, 0, none⟩) n fc sz al _ (H.out.below HB0.out k0 k1)).mono ?_
  rintro e w1 ⟨rfl, hb1⟩
  have HB1 := Lib.hid hb1
  clear hb1
  go_wp2_with fail
  have hle : w.heap.size < w1.heap.size := by have := HB1.out.size; have := HSW.out; omega
  have hal : Below w.heap.size w (w1.alloc (.cells #[.string nm, .slice (some ⟨g, 0, none⟩) n fc, .int .i64 sz, .int .i64 al] 73)) := (HB0.out.trans (HB1.out.mono (by have := HSW.out; omega))).alloc (by omega) _
  refine (fieldOf_found g fc n m hn hm NM SZ AT _ (by simp; omega) (HR.out.below hal hg) HN.out).mono ?_
  rintro e w2 ⟨rfl, hb2⟩
  have HB2 : Hid (Below W.heap.size W w2) := Lib.hid (HB1.out.trans ((Below.refl w1.heap.size w1).alloc (Nat.le_refl _) _ |>.trans (hb2.mono (by simp)) |>.mono HB1.out.size))
  have hle2 : w.heap.size < w2.heap.size := by have := HB2.out.size; have := HSW.out; omega
  clear hb2 hal
  unfold fldV
  go_wp2_with fail
  have FL := fresh_leaf (.int (SZ m) true false)
  refine (FL _).mono ?_
  rintro e w3 ⟨rfl, hb3⟩
  generalize hV : w2.alloc (.cells #[.string (NM m), .int .i64 1, .int .i64 (SZ m), .bool true, .bool false, .pointer none, .int .i64 0, .int .i64 0, .slice none 0 0, .pointer none, .int .i64 (AT m)] 45) = V at hb3
  have hfv : FCells V w2.heap.size 0 (NM m) (SZ m) (AT m) := by rw [← hV]; constructor <;> simp
  have hff : ∀ o, o < 11 → V.frozen? ⟨w2.heap.size, o, none⟩ = false := by rw [← hV]; intro o _; simp
  have hsV : V.heap.size = w2.heap.size + 1 := by rw [← hV]; simp
  have hBV : Below w2.heap.size w2 V := by rw [← hV]; exact (Below.refl _ _).alloc (Nat.le_refl _) _
  obtain ⟨v0, v1, v2, v3, v4, v5, v6, v7, v8, v9, v10⟩ := hfv.below hb3 (by omega)
  have e : ∀ o, o < 11 → w3.frozen? ⟨w2.heap.size, o, none⟩ = false := fun o ho => by rw [hb3.frozen (by simp [hsV])]; exact hff o ho
  have q0 := e 0 (by omega)
  have q1 := e 1 (by omega)
  have q2 := e 2 (by omega)
  have q3 := e 3 (by omega)
  have q4 := e 4 (by omega)
  have q5 := e 5 (by omega)
  have q6 := e 6 (by omega)
  have q7 := e 7 (by omega)
  have q8 := e 8 (by omega)
  have q9 := e 9 (by omega)
  have q10 := e 10 (by omega)
  simp only [Nat.zero_add] at v1 v2 v3 v4 v5 v6 v7 v8 v9 v10
  have HB3 : Hid (Below W.heap.size W w3) := Lib.hid (HB2.out.trans ((hBV.trans (hb3.mono (by omega))).mono HB2.out.size))
  obtain ⟨h0, h1, h2, h3, h4, h5, h6, h7, h8, h9, h10, f0, f1, f2, f3, f4, f5, f6, f7, f8, f9, f10⟩ := HRC.out.below HB3.out (by have := HSW.out; omega)
  have hz3 : w2.heap.size < w3.heap.size := by have := hb3.size; omega
  have hz4 : w.heap.size < w3.heap.size := by omega
  have n1 : w.heap.size ≠ w2.heap.size := by omega
  have n2 : w2.heap.size ≠ w.heap.size := by omega
  have HBW := Lib.hid (HB0.out.trans (HB3.out.mono (by have := HSW.out; omega)))
  clear e hb3 hV hfv hff hsV hBV FL
  rw [tyV_int]
  go_wp2
  have hbw := HBW.out
  refine bodyPost_ret (v := .tuple #[fldV (NM m) (SZ m) (AT m), .bool true]) ?_ rfl ⟨rfl, ?_⟩
  · unfold fldV; simp [results, Tryd.results15, go_sem, h0, h1, h2, h3, h4, h5, h6, h7, h8, h9, h10]
  · ((repeat (first | (with_reducible exact hbw) | (with_reducible apply Below.setCell) | (with_reducible apply Below.alloc))) <;> first | omega | (simp <;> omega))
end Go.Proofs.YtoajcggiccfaiaaDoor
