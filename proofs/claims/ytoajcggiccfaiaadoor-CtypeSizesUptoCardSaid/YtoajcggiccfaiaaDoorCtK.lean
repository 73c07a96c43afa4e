import Derived.Test.YtoajcggiccfaiaaDoorCtJ
namespace Go.Proofs.YtoajcggiccfaiaaDoor
open Go Go.RowKit

set_option maxHeartbeats 2000000 in
theorem fieldOf_found (g c n m : Nat) (hn : n ≤ 20) (hm : m < n) (NM : Nat → ByteArray) (SZ AT : Nat → Int) (w : World) (hg : g < w.heap.size) (hr : FRow w g n NM SZ AT)
    (hne : ∀ k, k < m → ((NM k).toList == (NM m).toList) = false) :
    Calls Tryd.prog 33 #[.slice (some ⟨g, 0, none⟩) n c, .string (NM m)] w (TupRes (.tuple #[fldV (NM m) (SZ m) (AT m), .bool true]) w) := by
  have HR := Lib.hid hr
  have HN := Lib.hid hne
  clear hr hne
  go_enter Tryd.func33, Tryd.ntmps33
  go_wp2_with fail
  generalize hW : w.alloc (.cells #[.string ⟨#[]⟩, .int .i64 0, .int .i64 0, .bool false, .bool false, .pointer none, .int .i64 0, .int .i64 0, .slice none 0 0, .pointer none, .int .i64 0] 45) = W
  have hB0 : Below w.heap.size w W := by rw [← hW]; exact (Below.refl _ _).alloc (Nat.le_refl _) _
  have hsW : W.heap.size = w.heap.size + 1 := by rw [← hW]; simp
  have HB0 := Lib.hid hB0
  have HSW := Lib.hid hsW
  have hrc : RCells W w.heap.size := by rw [← hW]; constructor <;> simp
  have HRC := Lib.hid hrc
  clear hB0 hsW hrc
  go_loopw [10] (fun vi wr => ∃ k : Nat, vi = .int .i64 k ∧ k ≤ m ∧ Below W.heap.size W wr) (fun vi _ => n - (intOf vi).toNat)
  case atStart => exact ⟨0, rfl, by omega, Below.refl _ _⟩
  case round =>
    obtain ⟨k, rfl, hk, hb⟩ := hrel
    have HB := Lib.hid hb
    have hkn : k < n := by omega
    by_cases hlt : k < m
    · obtain ⟨h0, h1, h2, h3, h4, h5, h6, h7, h8, h9, h10⟩ := ((HR.out k hkn).below HB0.out hg).below hb (by have := HSW.out; omega)
      have he := HN.out k hlt
      clear hb hW
      go_wp2
      go_roundw
      case rel => exact ⟨k + 1, by go_num, by omega, HB.out.alloc HB.out.size _⟩
      case measure => simp [intOf]; omega
    · obtain rfl : k = m := by omega
      obtain ⟨q0, q1, q2, q3, q4, q5, q6, q7, q8, q9, q10⟩ := ((HR.out k hkn).below HB0.out hg).below hb (by have := HSW.out; omega)
      obtain ⟨h0, h1, h2, h3, h4, h5, h6, h7, h8, h9, h10, f0, f1, f2, f3, f4, f5, f6, f7, f8, f9, f10⟩ := HRC.out.below hb (by have := HSW.out; omega)
      have hz : w.heap.size < wr.heap.size := by have := hb.size; have := HSW.out; omega
      have hbw := HB0.out.trans (hb.mono (by have := HSW.out; omega))
      have HBW := Lib.hid hbw
      clear hb hW hbw
      go_wp2
      have hbw := HBW.out
      refine bodyPost_ret (v := .tuple #[fldV (NM k) (SZ k) (AT k), .bool true]) ?_ rfl ⟨rfl, ?_⟩
      · unfold fldV; simp [results, Tryd.results33, go_sem, h0, h1, h2, h3, h4, h5, h6, h7, h8, h9, h10, hz]
      · ((repeat (first | (with_reducible exact hbw) | (with_reducible apply Below.setCell) | (with_reducible apply Below.alloc))) <;> first | omega | (simp <;> omega))

/-- A table of one struct. -/
structure TabOne (w : World) (tb rb rc : Nat) (nm : ByteArray) (fa : Option Addr) (fn fc : Nat) (sz al : Int) : Prop where
  t : w.cell? ⟨tb, 0, none⟩ = some (.slice (some ⟨rb, 0, none⟩) 1 rc)
  c0 : w.cell? ⟨rb, 0, none⟩ = some (.string nm)
  c1 : w.cell? ⟨rb, 1, none⟩ = some (.slice fa fn fc)
  c2 : w.cell? ⟨rb, 2, none⟩ = some (.int .i64 sz)
  c3 : w.cell? ⟨rb, 3, none⟩ = some (.int .i64 al)
theorem TabOne.below {w w' : World} {tb rb rc : Nat} {nm : ByteArray} {fa : Option Addr} {fn fc : Nat} {sz al : Int} {lim : Nat} (h : TabOne w tb rb rc nm fa fn fc sz al) (hb : Below lim w w') (ht : tb < lim) (hr : rb < lim) : TabOne w' tb rb rc nm fa fn fc sz al := by
  obtain ⟨h0, h1, h2, h3, h4⟩ := h
  exact ⟨by rw [hb.cell (by exact ht)]; assumption, by rw [hb.cell (by exact hr)]; assumption, by rw [hb.cell (by exact hr)]; assumption, by rw [hb.cell (by exact hr)]; assumption, by rw [hb.cell (by exact hr)]; assumption⟩

set_option maxHeartbeats 2000000 in
theorem record_one (tb rb rc : Nat) (nm : ByteArray) (fa : Option Addr) (fn fc : Nat) (sz al : Int) (w : World) (h : TabOne w tb rb rc nm fa fn fc sz al) :
    Calls Tryd.prog 27 #[.pointer (some ⟨tb, 0, none⟩), .int .i64 0] w (TupRes (.tuple #[.agg #[.string nm, .slice fa fn fc, .int .i64 sz, .int .i64 al], .bool true]) w) := by
  obtain ⟨h0, h1, h2, h3, h4⟩ := h
  have k0 := World.block_lt_of_cell? w _ h0
  have k1 := World.block_lt_of_cell? w _ h1
  simp at k0 k1
  go_enter Tryd.func27, Tryd.ntmps27
  go_wp2_with fail
  have hbw := Below.refl w.heap.size w
  refine bodyPost_ret (v := .tuple #[.agg #[.string nm, .slice fa fn fc, .int .i64 sz, .int .i64 al], .bool true]) ?_ rfl ⟨rfl, ?_⟩
  · simp [results, Tryd.results27, go_sem]
  · ((repeat (first | (with_reducible exact hbw) | (with_reducible apply Below.setCell) | (with_reducible apply Below.alloc))) <;> first | omega | (simp <;> omega))

set_option maxHeartbeats 2000000 in
theorem size_st (tb rb rc : Nat) (nm : ByteArray) (fa : Option Addr) (fn fc : Nat) (sz al : Int) (w : World) (h : TabOne w tb rb rc nm fa fn fc sz al) :
    Calls Tryd.prog 8 #[.pointer (some ⟨tb, 0, none⟩), tyV (.st 0) none] w (IntRes sz w) := by
  have H := Lib.hid h
  have k0 := World.block_lt_of_cell? w _ h.t
  have k1 := World.block_lt_of_cell? w _ h.c0
  simp at k0 k1
  clear h
  have e1 : tyV (.st 0) none = .agg #[.int .i64 4, .int .i64 0, .bool false, .bool false, .pointer none, .int .i64 0, .int .i64 0, .slice none 0 0, .pointer none] := rfl
  rw [e1]
  clear e1
  go_enter Tryd.func8, Tryd.ntmps8
  go_wp2_with fail
  refine (record_one tb rb rc nm fa fn fc sz al _ (H.out.below ((Below.refl w.heap.size w).alloc (Nat.le_refl _) _) k0 k1)).mono ?_
  rintro e w1 ⟨rfl, hb⟩
  have hB := Lib.hid (((Below.refl w.heap.size w).alloc (Nat.le_refl _) _).trans (hb.mono (by simp)))
  have hz := hb.size
  simp at hz
  clear hb
  go_wp2_with fail
  go_ret
  exact ⟨rfl, hB.out.alloc (by omega) _⟩

set_option maxHeartbeats 2000000 in
theorem align_st (tb rb rc : Nat) (nm : ByteArray) (fa : Option Addr) (fn fc : Nat) (sz al : Int) (w : World) (h : TabOne w tb rb rc nm fa fn fc sz al) :
    Calls Tryd.prog 10 #[.pointer (some ⟨tb, 0, none⟩), tyV (.st 0) none] w (IntRes al w) := by
  have H := Lib.hid h
  have k0 := World.block_lt_of_cell? w _ h.t
  have k1 := World.block_lt_of_cell? w _ h.c0
  simp at k0 k1
  clear h
  have e1 : tyV (.st 0) none = .agg #[.int .i64 4, .int .i64 0, .bool false, .bool false, .pointer none, .int .i64 0, .int .i64 0, .slice none 0 0, .pointer none] := rfl
  rw [e1]
  clear e1
  go_enter Tryd.func10, Tryd.ntmps10
  go_wp2_with fail
  refine (record_one tb rb rc nm fa fn fc sz al _ (H.out.below ((Below.refl w.heap.size w).alloc (Nat.le_refl _) _) k0 k1)).mono ?_
  rintro e w1 ⟨rfl, hb⟩
  have hB := Lib.hid (((Below.refl w.heap.size w).alloc (Nat.le_refl _) _).trans (hb.mono (by simp)))
  have hz := hb.size
  simp at hz
  clear hb
  go_wp2_with fail
  go_ret
  exact ⟨rfl, hB.out.alloc (by omega) _⟩
end Go.Proofs.YtoajcggiccfaiaaDoor
