import Derived.Test.YtoajcggiccfaiaaDoorCtB
namespace Go.Proofs.YtoajcggiccfaiaaDoor
open Go Go.RowKit

/-- What a fresh pointer points to. -/
def PtrRes (t : Ty) (w : World) (e : Ending) (w' : World) : Prop := ∃ b x, e = .returned (.pointer (some ⟨b, 0, none⟩)) ∧ b < w'.heap.size ∧ w.heap.size ≤ b ∧ Cells9 w' b 0 t x ∧ ElAt w' w.heap.size w'.heap.size t x ∧ Below w.heap.size w w'
def TyRes (t : Ty) (w : World) (e : Ending) (w' : World) : Prop := ∃ el, e = .returned (tyV t el) ∧ ElAt w' w.heap.size w'.heap.size t el ∧ Below w.heap.size w w'

set_option maxHeartbeats 1000000 in
theorem freshAt_nil (w : World) :
    Calls Tryd.prog 42 #[.pointer none] w fun e w' => e = .returned (.pointer none) ∧ w = w' := by
  go_enter Tryd.func42, Tryd.ntmps42
  go_wp2_with fail
  go_ret
  exact ⟨rfl, rfl⟩

set_option maxHeartbeats 1000000 in
theorem freshAt_step (t : Ty) (ih : ∀ (el : Option Addr) (w : World), ElAt w 0 w.heap.size t el → Calls Tryd.prog 34 #[tyV t el] w (TyRes t w))
    (b : Nat) (el : Option Addr) (w : World) (hc : Cells9 w b 0 t el) (he : ElAt w 0 w.heap.size t el) :
    Calls Tryd.prog 42 #[.pointer (some ⟨b, 0, none⟩)] w (PtrRes t w) := by
  have H1 := Lib.hid (ih el w he)
  obtain ⟨h0, h1, h2, h3, h4, h5, h6, h7, h8⟩ := hc
  have hlt := World.block_lt_of_cell? w _ h0
  simp only [Nat.zero_add] at h1 h2 h3 h4 h5 h6 h7 h8
  clear ih he
  go_enter Tryd.func42, Tryd.ntmps42
  go_wp2_with fail
  refine H1.out.mono ?_
  rintro e w1 ⟨el1, rfl, he1, hb1⟩
  have HE := Lib.hid he1
  have HB := Lib.hid hb1
  have hs := hb1.size
  clear he1 hb1 H1 h0 h1 h2 h3 h4 h5 h6 h7 h8
  unfold tyV
  go_wp2_with fail
  go_ret
  have hal : Below w1.heap.size w1 (w1.alloc (.cells #[.int .i64 t.kind, .int .i64 t.size, .bool t.sg, .bool t.sc, .pointer el1, .int .i64 t.len, .int .i64 t.num, .slice none 0 0, .pointer none] 34)) := (Below.refl _ _).alloc (Nat.le_refl _) _
  refine ⟨w1.heap.size, el1, rfl, by simp, hs, cells9_alloc _ _ _ _, (HE.out.below hal (Nat.le_refl _)).mono (Nat.le_refl _) (by simp), HB.out.trans (hal.mono hs)⟩

set_option maxHeartbeats 1000000 in
theorem fresh_leaf (t : Ty) (w : World) :
    Calls Tryd.prog 34 #[tyV t none] w fun e w' => e = .returned (tyV t none) ∧ Below w.heap.size w w' := by
  unfold tyV
  go_enter Tryd.func34, Tryd.ntmps34
  go_wp2_with (first | (go_at_call 43; refine (clone_any _).mono ?_; rintro e w' ⟨rfl, rfl⟩) | (go_at_call 42; refine (freshAt_nil _).mono ?_; rintro e w' ⟨rfl, rfl⟩))
  refine wp_loop_rounds 1 ?_; rw [rounds_succ]
  go_wp2
  refine bodyPost_ret (v := tyV t none) ?_ rfl ⟨rfl, ?_⟩
  · simp [results, Tryd.results34, go_sem, tyV]
  · ((repeat (first | (with_reducible exact Below.refl _ _) | (with_reducible apply Below.setCell) | (with_reducible apply Below.alloc))) <;> first | omega | (simp <;> omega))

def FreshRes (t u : Ty) (w : World) (e : Ending) (w' : World) : Prop := ∃ b x, e = .returned (tyV t (some ⟨b, 0, none⟩)) ∧ w.heap.size ≤ b ∧ b < w'.heap.size ∧ Cells9 w' b 0 u x ∧ ElAt w' w.heap.size w'.heap.size u x ∧ Below w.heap.size w w'

set_option maxHeartbeats 2000000 in
theorem fresh_step (t u : Ty) (ih : ∀ (el : Option Addr) (w : World), ElAt w 0 w.heap.size u el → Calls Tryd.prog 34 #[tyV u el] w (TyRes u w))
    (b : Nat) (el : Option Addr) (w : World) (hlt : b < w.heap.size) (hc : Cells9 w b 0 u el) (he : ElAt w 0 w.heap.size u el) :
    Calls Tryd.prog 34 #[tyV t (some ⟨b, 0, none⟩)] w (FreshRes t u w) := by
  have HC := Lib.hid hc
  have HE := Lib.hid he
  have HI := Lib.hid ih
  unfold tyV
  clear ih he hc
  go_enter Tryd.func34, Tryd.ntmps34
  go_wp2_with fail
  have hbW : Below w.heap.size w ((w.alloc (.cells #[.int .i64 t.kind, .int .i64 t.size, .bool t.sg, .bool t.sc, .pointer (some ⟨b, 0, none⟩), .int .i64 t.len, .int .i64 t.num, .slice none 0 0, .pointer none] 34)).alloc (.cells #[.int .i64 0, .int .i64 0, .bool false, .bool false, .pointer none, .int .i64 0, .int .i64 0, .slice none 0 0, .pointer none] 34)) := ((Below.refl _ _).alloc (Nat.le_refl _) _).alloc (by simp) _
  refine (freshAt_step u HI.out b el _ (HC.out.below hbW hlt) ((HE.out.below hbW (Nat.le_refl _)).mono (Nat.le_refl _) (by simp; omega))).mono ?_
  rintro e w1 ⟨nb, x, rfl, hnb, hnb2, hc9, hel, hb⟩
  have HBW := Lib.hid (hbW.trans (hb.mono (by simp; omega)))
  obtain ⟨⟨k0, k1, k2, k3, k4, k5, k6, k7, k8⟩, ⟨f0, f1, f2, f3, f4, f5, f6, f7, f8⟩, ⟨r0, r1, r2, r3, r4, r5, r6, r7, r8⟩, ⟨g0, g1, g2, g3, g4, g5, g6, g7, g8⟩, hz⟩ := box2 hb
  simp only [Nat.zero_add] at k1 k2 k3 k4 k5 k6 k7 k8 r1 r2 r3 r4 r5 r6 r7 r8
  have hnb3 : w.heap.size + 1 < nb := by simp at hnb2; omega
  have HC9 := Lib.hid hc9
  have HEL := Lib.hid hel
  clear hb hbW hc9 hel hnb2 HC HE HI
  go_wp2_with (first | (go_at_call 43; refine (clone_any _).mono ?_; rintro e w' ⟨rfl, rfl⟩) | (go_at_call 42; refine (freshAt_nil _).mono ?_; rintro e w' ⟨rfl, rfl⟩))
  refine wp_loop_rounds 1 ?_; rw [rounds_succ]
  go_wp2
  have hns : w.heap.size ≠ nb := by omega
  have hns1 : w.heap.size + 1 ≠ nb := by omega
  refine bodyPost_ret (v := tyV t (some ⟨nb, 0, none⟩)) ?_ rfl ⟨nb, x, rfl, by omega, by simp; omega, ?_, ?_, ?_⟩
  · simp [results, Tryd.results34, go_sem, tyV, r0, r1, r2, r3, r4, r5, r6, r7, r8]
  · have := HC9.out
    (repeat (first | (with_reducible exact this) | (with_reducible apply Cells9.setCell))) <;> assumption
  · have := HEL.out
    simp only [World.size_setCell]
    refine ElAt.mono (lo := w.heap.size + 2) (by omega) (Nat.le_refl _) ?_
    have h2 : ElAt w1 (w.heap.size + 2) w1.heap.size u x := this.mono (by simp) (Nat.le_refl _)
    (repeat (first | (with_reducible exact h2) | (with_reducible apply ElAt.set_lo))) <;> first | omega | (simp <;> omega)
  · have := HBW.out
    (repeat (first | (with_reducible exact this) | (with_reducible apply Below.setCell))) <;> simp
theorem fresh_any (t : Ty) : ∀ (el : Option Addr) (w : World), ElAt w 0 w.heap.size t el → Calls Tryd.prog 34 #[tyV t el] w (TyRes t w) := by
  have leaf : ∀ (t : Ty) (w : World), (∀ w' lo hi, ElAt w' lo hi t none) → Calls Tryd.prog 34 #[tyV t none] w (TyRes t w) := fun t w h =>
    (fresh_leaf t w).mono fun e w' ⟨h1, h2⟩ => ⟨none, h1, h _ _ _, h2⟩
  induction t with
  | void => rintro el w rfl; exact leaf _ _ fun _ _ _ => rfl
  | int n a b => rintro el w rfl; exact leaf _ _ fun _ _ _ => rfl
  | st k => rintro el w rfl; exact leaf _ _ fun _ _ _ => rfl
  | ptr t ih =>
    rintro el w ⟨b, e, rfl, _, h2, h3, h4⟩
    refine (fresh_step (.ptr t) t ih b e w h2 h3 h4).mono ?_
    rintro e w' ⟨b, x, h1, h2, h3, h4, h5, h6⟩
    exact ⟨some ⟨b, 0, none⟩, h1, ⟨b, x, rfl, h2, h3, h4, h5⟩, h6⟩
  | arr t n ih =>
    rintro el w ⟨b, e, rfl, _, h2, h3, h4⟩
    refine (fresh_step (.arr t n) t ih b e w h2 h3 h4).mono ?_
    rintro e w' ⟨b, x, h1, h2, h3, h4, h5, h6⟩
    exact ⟨some ⟨b, 0, none⟩, h1, ⟨b, x, rfl, h2, h3, h4, h5⟩, h6⟩

theorem freshAt_any (t : Ty) (b : Nat) (el : Option Addr) (w : World) (hc : Cells9 w b 0 t el) (he : ElAt w 0 w.heap.size t el) :
    Calls Tryd.prog 42 #[.pointer (some ⟨b, 0, none⟩)] w (PtrRes t w) :=
  freshAt_step t (fresh_any t) b el w hc he
end Go.Proofs.YtoajcggiccfaiaaDoor
