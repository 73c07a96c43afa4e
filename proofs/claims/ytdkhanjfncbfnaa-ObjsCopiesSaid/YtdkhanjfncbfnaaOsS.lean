import Derived.Test.YtdkhanjfncbfnaaOsQ
namespace Go.Proofs.Ytdkhanjfncbfnaa
open Go Go.RowKit
set_option linter.unusedVariables false
set_option linter.unusedSimpArgs false

def tL : Value := .agg #[.int .i64 1, .int .i64 8, .bool true, .bool false, .pointer none, .int .i64 0, .int .i64 0, .slice none 0 0, .pointer none]
theorem sz8 : Sz 8 := Or.inr (Or.inr (Or.inr rfl))
section
variable {w w' : World} {mb pb : Nat} {es : Array MapEntry} {clk : Nat} {o : Int} {s c : Nat} {C : Nat → Cl}
theorem Ob.st8 (h : Ob w mb pb es clk o s c 8 (fun _ => false) C) (x : Int) :
    Calls Try.prog 22 #[.pointer (some ⟨mb, 0, none⟩), .agg #[.int .i64 1, .int .i64 o, .int .i64 0], .agg #[.int .i64 1, .int .i64 8, .bool true, .bool false, .pointer none, .int .i64 0, .int .i64 0, .slice none 0 0, .pointer none], .agg #[.int .i64 x, .int .i64 0, .int .i64 0, .int .i64 0, .bool false]] w fun e w' => e = .returned (.bool true) ∧ Turn c w w' ∧ Ob w' mb pb es clk o s c 8 (fun _ => false) (putC C 0 8 x) :=
  h.store 0 8 sz8 (by omega) true false (fun _ _ => rfl) x 0 0 0 false
theorem Ob.ld8 {x : Int} (h : Ob w mb pb es clk o s c 8 (fun _ => false) (putC C 0 8 x)) (h0 : -9223372036854775808 ≤ x) (h1 : x ≤ 9223372036854775807) :
    Calls Try.prog 23 #[.pointer (some ⟨mb, 0, none⟩), .agg #[.int .i64 1, .int .i64 o, .int .i64 0], .agg #[.int .i64 1, .int .i64 8, .bool true, .bool false, .pointer none, .int .i64 0, .int .i64 0, .slice none 0 0, .pointer none]] w fun e w' => e = .returned (.tuple #[.agg #[.int .i64 x, .int .i64 0, .int .i64 0, .int .i64 0, .bool false], .bool true]) ∧ Below w.heap.size w w' := by
  have hl := h.load 0 8 sz8 (by omega) true false (fun _ _ => rfl) (fun i hi => by rw [putC_in C 0 8 i x hi]; exact ⟨rfl, byteOf_range x i⟩)
  have e : valOf true 8 (sumB (fun i => (putC C 0 8 x (0 + i)).b) 8) = x := by
    rw [sumB_congr (B' := byteOf x) 8 (fun i hi => by rw [putC_in C 0 8 i x hi]; rfl)]
    exact val_back x h0 h1
  rw [e] at hl
  exact hl
theorem Ob.ld8_none (h : Ob w mb pb es clk o s c 8 (fun _ => false) (fun _ => ⟨0, 0, 0, 0, 0⟩)) :
    Calls Try.prog 23 #[.pointer (some ⟨mb, 0, none⟩), .agg #[.int .i64 1, .int .i64 o, .int .i64 0], .agg #[.int .i64 1, .int .i64 8, .bool true, .bool false, .pointer none, .int .i64 0, .int .i64 0, .slice none 0 0, .pointer none]] w fun e w' => e = .returned (.tuple #[.agg #[.int .i64 0, .int .i64 0, .int .i64 0, .int .i64 0, .bool false], .bool false]) ∧ Below w.heap.size w w' :=
  h.load_none 0 8 sz8 (by omega) true false (fun _ _ => rfl) (by simp)
theorem Ob.al8 (h : Ob w mb pb es clk o s c 8 (fun _ => false) C) :
    Calls Try.prog 12 #[.pointer (some ⟨mb, 0, none⟩), .agg #[.int .i64 1, .int .i64 o, .int .i64 0]] w (BoolRes true w) :=
  alive_of mb 1 o 0 _ _ _ _ _ _ _ rfl w true (h.behind 0 (by omega))
end
section
variable {w : World} {mb : Nat} {o : Int}
theorem gone_al (h : BehindIs w mb (ptrV 1 o 0) noObj false) :
    Calls Try.prog 12 #[.pointer (some ⟨mb, 0, none⟩), .agg #[.int .i64 1, .int .i64 o, .int .i64 0]] w (BoolRes false w) :=
  alive_of mb 1 o 0 _ _ _ _ _ _ _ (by unfold noObj; rfl) w false h
theorem gone_acc (h : BehindIs w mb (ptrV 1 o 0) noObj false) : AccIs w mb (ptrV 1 o 0) (tI 8 true false) noObj false := fun w' hb => 
  acc_int_no mb 1 o 0 8 sz8 true false w' ((bytesIs_no (h.later hb)))
theorem gone_ld (h : BehindIs w mb (ptrV 1 o 0) noObj false) :
    Calls Try.prog 23 #[.pointer (some ⟨mb, 0, none⟩), .agg #[.int .i64 1, .int .i64 o, .int .i64 0], .agg #[.int .i64 1, .int .i64 8, .bool true, .bool false, .pointer none, .int .i64 0, .int .i64 0, .slice none 0 0, .pointer none]] w fun e w' => e = .returned (.tuple #[.agg #[.int .i64 0, .int .i64 0, .int .i64 0, .int .i64 0, .bool false], .bool false]) ∧ Below w.heap.size w w' :=
  load_no mb 1 o 0 8 true false w (gone_acc h)
end
set_option maxRecDepth 100000 in
set_option maxHeartbeats 8000000 in
theorem store_no (mb : Nat) (k o f : Int) (sz : Int) (sg sc : Bool) (x pk po pf : Int) (isp : Bool) (w : World) (h : AccIs w mb (ptrV k o f) (tI sz sg sc) noObj false) :
    Calls Try.prog 22 #[.pointer (some ⟨mb, 0, none⟩), ptrV k o f, tI sz sg sc, .agg #[.int .i64 x, .int .i64 pk, .int .i64 po, .int .i64 pf, .bool isp]] w (BoolRes false w) := by
  have h' := h
  unfold AccIs ptrV tI at h'
  unfold noObj at h'
  have H := Lib.hid h'
  clear h h'
  unfold ptrV tI
  go_enter Try.func22, Try.ntmps22
  go_wp2_with fail
  have hb0 : Below w.heap.size w (((w.alloc (.cells #[.int .i64 k, .int .i64 o, .int .i64 f] 38)).alloc (.cells #[.int .i64 1, .int .i64 sz, .bool sg, .bool sc, .pointer none, .int .i64 0, .int .i64 0, .slice none 0 0, .pointer none] 57)).alloc (.cells #[.int .i64 x, .int .i64 pk, .int .i64 po, .int .i64 pf, .bool isp] 74)) := (((Below.refl _ _).alloc (Nat.le_refl _) _).alloc (by simp) _).alloc (by simp; omega) _
  (with_reducible refine (H.out _ hb0).mono ?_)
  rintro e w1 ⟨rfl, hb1⟩
  have HB1 : Hid (Below w.heap.size w w1) := Lib.hid (hb0.trans (hb1.mono hb0.size))
  clear hb0 hb1
  go_wp2_with fail
  go_ret
  have hbv := HB1.out
  refine ⟨rfl, ?_⟩
  ((repeat (first | (with_reducible exact hbv) | (with_reducible apply Below.setCell) | (with_reducible apply Below.alloc) | (with_reducible apply Below.drew))) <;> first | exact hbv.size | omega | (simp <;> omega))
theorem gone_st {w : World} {mb : Nat} {o : Int} (x : Int) (h : BehindIs w mb (ptrV 1 o 0) noObj false) :
    Calls Try.prog 22 #[.pointer (some ⟨mb, 0, none⟩), .agg #[.int .i64 1, .int .i64 o, .int .i64 0], .agg #[.int .i64 1, .int .i64 8, .bool true, .bool false, .pointer none, .int .i64 0, .int .i64 0, .slice none 0 0, .pointer none], .agg #[.int .i64 x, .int .i64 0, .int .i64 0, .int .i64 0, .bool false]] w (BoolRes false w) :=
  store_no mb 1 o 0 8 true false x 0 0 0 false w (gone_acc h)
end Go.Proofs.Ytdkhanjfncbfnaa
