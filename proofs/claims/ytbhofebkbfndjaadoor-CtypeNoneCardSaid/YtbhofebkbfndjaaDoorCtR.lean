import Derived.Test.YtbhofebkbfndjaaDoorCtP
import Derived.Test.YtbhofebkbfndjaaDoorShelf
import Derived.Lib.Builder
namespace Go.Proofs.YtbhofebkbfndjaaDoor
open Go Go.RowKit

theorem find_nil (nm : ByteArray) (w : World) :
    Calls Tryd.prog 14 #[.pointer none, .string nm] w fun e w' => e = .returned (.tuple #[.int .i64 0, .bool false]) ∧ w = w' := by
  go_enter Tryd.func14, Tryd.ntmps14
  go_wp2
  go_ret2
  exact ⟨rfl, rfl⟩

def rec0 : Value := .agg #[.string ⟨#[]⟩, .slice none 0 0, .int .i64 0, .int .i64 0]

theorem record_nil (n : Int) (w : World) :
    Calls Tryd.prog 27 #[.pointer none, .int .i64 n] w (TupRes (.tuple #[rec0, .bool false]) w) := by
  go_enter Tryd.func27, Tryd.ntmps27
  go_wp2
  have hbw := Below.refl w.heap.size w
  refine bodyPost_ret (v := .tuple #[rec0, .bool false]) ?_ rfl ⟨rfl, ?_⟩
  · unfold rec0; simp [results, Tryd.results27, go_sem]
  · ((repeat (first | (with_reducible exact hbw) | (with_reducible apply Below.setCell) | (with_reducible apply Below.alloc))) <;> first | omega | (simp <;> omega))

theorem size_void (tab : Value) (w : World) :
    Calls Tryd.prog 8 #[tab, tyV .void none] w (IntRes 0 w) := by
  have e1 : tyV .void none = .agg #[.int .i64 0, .int .i64 0, .bool false, .bool false, .pointer none, .int .i64 0, .int .i64 0, .slice none 0 0, .pointer none] := rfl
  rw [e1]
  clear e1
  go_enter Tryd.func8, Tryd.ntmps8
  go_wp2_with fail
  go_ret
  exact ⟨rfl, (Below.refl _ _).alloc (Nat.le_refl _) _⟩

theorem size_nil (w : World) :
    Calls Tryd.prog 8 #[.pointer none, tyV (.st 0) none] w (IntRes 0 w) := by
  have e1 : tyV (.st 0) none = .agg #[.int .i64 4, .int .i64 0, .bool false, .bool false, .pointer none, .int .i64 0, .int .i64 0, .slice none 0 0, .pointer none] := rfl
  rw [e1]
  clear e1
  go_enter Tryd.func8, Tryd.ntmps8
  go_wp2_with fail
  refine (record_nil 0 _).mono ?_
  rintro e w1 ⟨rfl, hb⟩
  have hB := Lib.hid (((Below.refl w.heap.size w).alloc (Nat.le_refl _) _).trans (hb.mono (by simp)))
  have hz := hb.size
  simp at hz
  clear hb
  unfold rec0
  go_wp2_with fail
  go_ret
  exact ⟨rfl, hB.out.alloc (by omega) _⟩

theorem align_nil (w : World) :
    Calls Tryd.prog 10 #[.pointer none, tyV (.st 0) none] w (IntRes 1 w) := by
  have e1 : tyV (.st 0) none = .agg #[.int .i64 4, .int .i64 0, .bool false, .bool false, .pointer none, .int .i64 0, .int .i64 0, .slice none 0 0, .pointer none] := rfl
  rw [e1]
  clear e1
  go_enter Tryd.func10, Tryd.ntmps10
  go_wp2_with fail
  refine (record_nil 0 _).mono ?_
  rintro e w1 ⟨rfl, hb⟩
  have hB := Lib.hid (((Below.refl w.heap.size w).alloc (Nat.le_refl _) _).trans (hb.mono (by simp)))
  have hz := hb.size
  simp at hz
  clear hb
  unfold rec0
  go_wp2_with fail
  go_ret
  exact ⟨rfl, hB.out.alloc (by omega) _⟩

theorem clonef_any (w : World) :
    Calls Tryd.prog 35 #[.slice none 0 0] w fun e w' => e = .returned (.slice none 0 0) ∧ w = w' := by
  have hn := Lib.run_eql_slice_nil (P := Tryd.prog) w 50 45 none 0 0 0 0 Tryd.underlying50
  go_enter Tryd.func35, Tryd.ntmps35
  go_wp2
  go_ret
  exact ⟨rfl, rfl⟩

theorem fields_nil (n : Int) (w : World) :
    Calls Tryd.prog 18 #[.pointer none, .int .i64 n] w (TupRes (.slice none 0 0) w) := by
  go_enter Tryd.func18, Tryd.ntmps18
  go_wp2_with fail
  refine (record_nil n _).mono ?_
  rintro e w1 ⟨rfl, hb⟩
  have hB := Lib.hid hb
  have hz := hb.size
  clear hb
  unfold rec0
  go_wp2_with (go_at_call 35; refine (clonef_any _).mono ?_; rintro e w' ⟨rfl, rfl⟩)
  refine wp_loop_rounds 1 ?_; rw [rounds_succ]
  go_wp2
  go_ret
  exact ⟨rfl, hB.out.alloc (by omega) _⟩

set_option maxHeartbeats 2000000 in
theorem field_nil (n : Int) (nm : ByteArray) (w : World) :
    Calls Tryd.prog 15 #[.pointer none, .int .i64 n, .string nm] w (TupRes (.tuple #[fld0, .bool false]) w) := by
  go_enter Tryd.func15, Tryd.ntmps15
  go_wp2_with fail
  generalize hW : w.alloc (.cells #[.string ⟨#[]⟩, .int .i64 0, .int .i64 0, .bool false, .bool false, .pointer none, .int .i64 0, .int .i64 0, .slice none 0 0, .pointer none, .int .i64 0] 45) = W
  have hB0 : Below w.heap.size w W := by rw [← hW]; exact (Below.refl _ _).alloc (Nat.le_refl _) _
  have hsW : W.heap.size = w.heap.size + 1 := by rw [← hW]; simp
  have HB0 := Lib.hid hB0
  have HSW := Lib.hid hsW
  have hrc : RCells W w.heap.size := by rw [← hW]; constructor <;> simp
  have HRC := Lib.hid hrc
  clear hB0 hsW hrc hW
  refine (record_nil n _).mono ?_
  rintro e w1 ⟨rfl, hb1⟩
  have HB1 := Lib.hid hb1
  clear hb1
  unfold rec0
  go_wp2_with fail
  refine (fieldOf_nil nm _).mono ?_
  rintro e w2 ⟨rfl, hb2⟩
  have HB2 : Hid (Below W.heap.size W w2) := Lib.hid (HB1.out.trans ((Below.refl w1.heap.size w1).alloc (Nat.le_refl _) _ |>.trans (hb2.mono (by simp)) |>.mono HB1.out.size))
  have hle2 : w.heap.size < w2.heap.size := by have := HB2.out.size; have := HSW.out; omega
  clear hb2
  unfold fld0
  go_wp2_with fail
  have FL := fresh_leaf .void
  refine (FL _).mono ?_
  rintro e w3 ⟨rfl, hb3⟩
  generalize hV : w2.alloc (.cells #[.string ⟨#[]⟩, .int .i64 0, .int .i64 0, .bool false, .bool false, .pointer none, .int .i64 0, .int .i64 0, .slice none 0 0, .pointer none, .int .i64 0] 45) = V at hb3
  have hfv : RCells V w2.heap.size := by rw [← hV]; constructor <;> simp
  have hsV : V.heap.size = w2.heap.size + 1 := by rw [← hV]; simp
  have hBV : Below w2.heap.size w2 V := by rw [← hV]; exact (Below.refl _ _).alloc (Nat.le_refl _) _
  obtain ⟨v0, v1, v2, v3, v4, v5, v6, v7, v8, v9, v10, q0, q1, q2, q3, q4, q5, q6, q7, q8, q9, q10⟩ := hfv.below hb3 (by omega)
  have HB3 : Hid (Below W.heap.size W w3) := Lib.hid (HB2.out.trans ((hBV.trans (hb3.mono (by omega))).mono HB2.out.size))
  obtain ⟨h0, h1, h2, h3, h4, h5, h6, h7, h8, h9, h10, f0, f1, f2, f3, f4, f5, f6, f7, f8, f9, f10⟩ := HRC.out.below HB3.out (by have := HSW.out; omega)
  have hz3 : w2.heap.size < w3.heap.size := by have := hb3.size; omega
  have hz4 : w.heap.size < w3.heap.size := by omega
  have n1 : w.heap.size ≠ w2.heap.size := by omega
  have n2 : w2.heap.size ≠ w.heap.size := by omega
  have HBW := Lib.hid (HB0.out.trans (HB3.out.mono (by have := HSW.out; omega)))
  clear hb3 hV hfv hsV hBV FL
  have e1 : tyV .void none = .agg #[.int .i64 0, .int .i64 0, .bool false, .bool false, .pointer none, .int .i64 0, .int .i64 0, .slice none 0 0, .pointer none] := rfl
  rw [e1]
  clear e1
  go_wp2
  have hbw := HBW.out
  refine bodyPost_ret (v := .tuple #[fld0, .bool false]) ?_ rfl ⟨rfl, ?_⟩
  · unfold fld0; simp [results, Tryd.results15, go_sem, h0, h1, h2, h3, h4, h5, h6, h7, h8, h9, h10]
  · ((repeat (first | (with_reducible exact hbw) | (with_reducible apply Below.setCell) | (with_reducible apply Below.alloc))) <;> first | omega | (simp <;> omega))
end Go.Proofs.YtbhofebkbfndjaaDoor
