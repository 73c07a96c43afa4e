import Derived.Test.YtoajcggiccfaiaaDoorCtD
namespace Go.Proofs.YtoajcggiccfaiaaDoor
open Go Go.RowKit

theorem tyV_int (n : Int) (b c : Bool) : tyV (.int n b c) none = .agg #[.int .i64 1, .int .i64 n, .bool b, .bool c, .pointer none, .int .i64 0, .int .i64 0, .slice none 0 0, .pointer none] := rfl

def secT : Ty → Ty
  | .int n b _ => .int n b true
  | .arr t n => .arr (secT t) n
  | t => t
def openT : Ty → Ty
  | .int n b _ => .int n b false
  | t => t

set_option maxHeartbeats 1000000 in
theorem secret_int (n : Int) (b c : Bool) (w : World) :
    Calls Tryd.prog 22 #[tyV (.int n b c) none] w fun e w' => e = .returned (tyV (.int n b true) none) ∧ Below w.heap.size w w' := by
  rw [tyV_int, tyV_int]
  go_enter Tryd.func22, Tryd.ntmps22
  go_wp2_with fail
  refine bodyPost_ret (v := tyV (.int n b true) none) ?_ rfl ⟨rfl, ?_⟩
  · rw [tyV_int]; simp [results, Tryd.results22, go_sem]
  · ((repeat (first | (with_reducible exact Below.refl _ _) | (with_reducible apply Below.setCell) | (with_reducible apply Below.alloc))) <;> first | omega | (simp <;> omega))

set_option maxHeartbeats 1000000 in
theorem secret_fresh (t : Ty) (h1 : (t.kind == 1) = false) (h3 : (t.kind == 3) = false) (el : Option Addr) (w : World) (he : ElAt w 0 w.heap.size t el) :
    Calls Tryd.prog 22 #[tyV t el] w (TyRes t w) := by
  have HE := Lib.hid he
  clear he
  unfold tyV
  go_enter Tryd.func22, Tryd.ntmps22
  go_wp2_with fail
  have hbW : Below w.heap.size w ((w.alloc (.cells #[.int .i64 t.kind, .int .i64 t.size, .bool t.sg, .bool t.sc, .pointer el, .int .i64 t.len, .int .i64 t.num, .slice none 0 0, .pointer none] 34)).alloc (.cells #[.int .i64 0, .int .i64 0, .bool false, .bool false, .pointer none, .int .i64 0, .int .i64 0, .slice none 0 0, .pointer none] 34)) := ((Below.refl _ _).alloc (Nat.le_refl _) _).alloc (by simp) _
  refine (fresh_any t el _ ((HE.out.below hbW (Nat.le_refl _)).mono (Nat.le_refl _) (by simp; omega))).mono ?_
  rintro e w1 ⟨x, rfl, he, hb⟩
  obtain ⟨⟨k0, k1, k2, k3, k4, k5, k6, k7, k8⟩, ⟨f0, f1, f2, f3, f4, f5, f6, f7, f8⟩, ⟨r0, r1, r2, r3, r4, r5, r6, r7, r8⟩, ⟨g0, g1, g2, g3, g4, g5, g6, g7, g8⟩, hz⟩ := box2 hb
  simp only [Nat.zero_add] at k1 k2 k3 k4 k5 k6 k7 k8 r1 r2 r3 r4 r5 r6 r7 r8
  have HB := Lib.hid (hbW.trans (hb.mono (by simp; omega)))
  have he2 : ElAt w1 (w.heap.size + 2) w1.heap.size t x := by simpa using he
  have HE2 := Lib.hid he2
  clear hb hbW he he2 HE
  unfold tyV
  go_wp2_with fail
  have hE := HE2.out
  have hbw := HB.out
  refine bodyPost_ret (v := tyV t x) ?_ rfl ⟨x, rfl, ?_, ?_⟩
  · unfold tyV; simp [results, Tryd.results22, go_sem, r0, r1, r2, r3, r4, r5, r6, r7, r8]
  · simp only [World.size_setCell]
    refine ElAt.mono (lo := w.heap.size + 2) (by omega) (Nat.le_refl _) ?_
    ((repeat (first | (with_reducible exact hE) | (with_reducible apply ElAt.set_lo))) <;> first | omega | (simp <;> omega))
  · ((repeat (first | (with_reducible exact hbw) | (with_reducible apply Below.setCell) | (with_reducible apply Below.alloc))) <;> first | omega | (simp <;> omega))

def prN (n : Int) : Int := if n < 4 then 4 else n
def prS (n : Int) (b : Bool) : Bool := if n < 4 then true else b
def promT : Ty → Ty
  | .int n b c => .int (prN n) (prS n b) c
  | t => t

end Go.Proofs.YtoajcggiccfaiaaDoor
