import Derived.Test.YtoajcggiccfaiaaCtH
import Derived.LoopN
namespace Go.Proofs.Ytoajcggiccfaiaa
open Go Go.RowKit

/-- Two types that lie one behind the other in a block, what lies behind them older than lim. -/
structure Pair9 (w : World) (p lim : Nat) (t1 t2 : Ty) (e1 e2 : Option Addr) : Prop where
  a : Cells9 w p 0 t1 e1
  b : Cells9 w p 9 t2 e2
  x : ElAt w 0 lim t1 e1
  y : ElAt w 0 lim t2 e2
  lt : p < w.heap.size
  le : lim ≤ w.heap.size
theorem Pair9.below {w w' : World} {p lim : Nat} {t1 t2 : Ty} {e1 e2 : Option Addr} (h : Pair9 w p lim t1 t2 e1 e2) (hb : Below w.heap.size w w') : Pair9 w' p lim t1 t2 e1 e2 :=
  ⟨h.a.below hb h.lt, h.b.below hb h.lt, h.x.below hb h.le, h.y.below hb h.le, Nat.lt_of_lt_of_le h.lt hb.size, Nat.le_trans h.le hb.size⟩

set_option maxHeartbeats 2000000 in
set_option maxRecDepth 100000 in
theorem eqf_any (t1 t2 u1 u2 : Ty) (e1 e2 x1 x2 : Option Addr) (p q lim : Nat) (w : World) (hp : Pair9 w p lim t1 t2 e1 e2) (hq : Pair9 w q lim u1 u2 x1 x2) :
    Calls Try.prog 34 #[.slice (some ⟨p, 0, none⟩) 2 2, .slice (some ⟨q, 0, none⟩) 2 2, .func (.func 12) #[] #[]] w (BoolRes (sameT t1 u1 && sameT t2 u2) w) := by
  have HP := Lib.hid hp
  have HQ := Lib.hid hq
  obtain ⟨a0, a1, a2, a3, a4, a5, a6, a7, a8⟩ := hp.a
  obtain ⟨b0, b1, b2, b3, b4, b5, b6, b7, b8⟩ := hq.a
  have hpl := hp.lt
  have hql := hq.lt
  simp only [Nat.zero_add] at a0 a1 a2 a3 a4 a5 a6 a7 a8 b0 b1 b2 b3 b4 b5 b6 b7 b8
  have C1 := Lib.hid (show ∀ w', Below w.heap.size w w' → Calls Try.prog 12 #[.agg #[.int .i64 t1.kind, .int .i64 t1.size, .bool t1.sg, .bool t1.sc, .pointer e1, .int .i64 t1.len, .int .i64 t1.num, .slice none 0 0, .pointer none], .agg #[.int .i64 u1.kind, .int .i64 u1.size, .bool u1.sg, .bool u1.sc, .pointer x1, .int .i64 u1.len, .int .i64 u1.num, .slice none 0 0, .pointer none]] w' (BoolRes (sameT t1 u1) w') from fun w' hb => by
    have h := same_any t1 u1 e1 x1 w' ((hp.x.below hb hp.le).mono (Nat.le_refl _) (Nat.le_trans hp.le hb.size)) ((hq.x.below hb hq.le).mono (Nat.le_refl _) (Nat.le_trans hq.le hb.size))
    unfold tyV at h
    exact h)
  have C2 := Lib.hid (show ∀ w', Below w.heap.size w w' → Calls Try.prog 12 #[.agg #[.int .i64 t2.kind, .int .i64 t2.size, .bool t2.sg, .bool t2.sc, .pointer e2, .int .i64 t2.len, .int .i64 t2.num, .slice none 0 0, .pointer none], .agg #[.int .i64 u2.kind, .int .i64 u2.size, .bool u2.sg, .bool u2.sc, .pointer x2, .int .i64 u2.len, .int .i64 u2.num, .slice none 0 0, .pointer none]] w' (BoolRes (sameT t2 u2) w') from fun w' hb => by
    have h := same_any t2 u2 e2 x2 w' ((hp.y.below hb hp.le).mono (Nat.le_refl _) (Nat.le_trans hp.le hb.size)) ((hq.y.below hb hq.le).mono (Nat.le_refl _) (Nat.le_trans hq.le hb.size))
    unfold tyV at h
    exact h)
  clear hp hq
  go_enter Try.func34, Try.ntmps34
  go_wp2_with fail
  refine wp_loop_rounds 3 ?_
  rw [rounds_succ]
  have HB0 := Lib.hid (show Below w.heap.size w ((w.alloc (.cells #[.int .i64 t1.kind, .int .i64 t1.size, .bool t1.sg, .bool t1.sc, .pointer e1, .int .i64 t1.len, .int .i64 t1.num, .slice none 0 0, .pointer none] 38)).alloc (.cells #[.int .i64 u1.kind, .int .i64 u1.size, .bool u1.sg, .bool u1.sc, .pointer x1, .int .i64 u1.len, .int .i64 u1.num, .slice none 0 0, .pointer none] 38)) from ((Below.refl _ _).alloc (Nat.le_refl _) _).alloc (by simp) _)
  cases hs1 : sameT t1 u1 with
  | false =>
    have HS1 := Lib.hid hs1
    clear hs1
    go_wp2_with (go_at_call 12; (with_reducible refine (C1.out _ HB0.out).mono ?_); rintro e w1 ⟨rfl, hb⟩; rw [HS1.out]; have HB1 := Lib.hid (HB0.out.trans (hb.mono (by simp; omega))); clear hb)
    go_ret
    exact ⟨rfl, HB1.out⟩
  | true =>
    have HS1 := Lib.hid hs1
    clear hs1
    go_wp2_with (go_at_call 12; (with_reducible refine (C1.out _ HB0.out).mono ?_); rintro e w1 ⟨rfl, hb⟩; rw [HS1.out]; have HB1 := Lib.hid (HB0.out.trans (hb.mono (by simp; omega))); clear hb)
    obtain ⟨a0, a1, a2, a3, a4, a5, a6, a7, a8⟩ := (HP.out.below HB1.out).b
    obtain ⟨b0, b1, b2, b3, b4, b5, b6, b7, b8⟩ := (HQ.out.below HB1.out).b
    have hpl1 := (HP.out.below HB1.out).lt
    have hql1 := (HQ.out.below HB1.out).lt
    have hzz : w.heap.size ≤ w1.heap.size := HB1.out.size
    simp only [Nat.reduceAdd] at a0 a1 a2 a3 a4 a5 a6 a7 a8 b0 b1 b2 b3 b4 b5 b6 b7 b8
    have HB2 := Lib.hid (show Below w.heap.size w ((w1.alloc (.cells #[.int .i64 t2.kind, .int .i64 t2.size, .bool t2.sg, .bool t2.sc, .pointer e2, .int .i64 t2.len, .int .i64 t2.num, .slice none 0 0, .pointer none] 38)).alloc (.cells #[.int .i64 u2.kind, .int .i64 u2.size, .bool u2.sg, .bool u2.sc, .pointer x2, .int .i64 u2.len, .int .i64 u2.num, .slice none 0 0, .pointer none] 38)) from (HB1.out.alloc hzz _).alloc (by simp; omega) _)
    rw [rounds_succ]
    cases hs2 : sameT t2 u2 with
    | false =>
      have HS2 := Lib.hid hs2
      clear hs2
      go_wp2_with (go_at_call 12; (with_reducible refine (C2.out _ HB2.out).mono ?_); rintro e w2 ⟨rfl, hb⟩; rw [HS2.out]; have HB3 := Lib.hid (HB2.out.trans (hb.mono (by simp; omega))); clear hb)
      go_ret
      exact ⟨rfl, HB3.out⟩
    | true =>
      have HS2 := Lib.hid hs2
      clear hs2
      go_wp2_with (go_at_call 12; (with_reducible refine (C2.out _ HB2.out).mono ?_); rintro e w2 ⟨rfl, hb⟩; rw [HS2.out]; have HB3 := Lib.hid (HB2.out.trans (hb.mono (by simp; omega))); clear hb)
      rw [rounds_succ]
      go_wp2_with fail
      go_ret
      exact ⟨by rw [HS1.out, HS2.out]; rfl, HB3.out⟩
end Go.Proofs.Ytoajcggiccfaiaa
