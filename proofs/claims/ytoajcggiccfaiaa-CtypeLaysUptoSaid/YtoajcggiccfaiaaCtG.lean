import Derived.Test.YtoajcggiccfaiaaCtF
namespace Go.Proofs.Ytoajcggiccfaiaa
open Go Go.RowKit

def sameT : Ty → Ty → Bool
  | .void, .void => true
  | .int n b c, .int m d e => n == m && (b == d && c == e)
  | .ptr t, .ptr u => sameT t u
  | .arr t n, .arr u m => n == m && sameT t u
  | .st k, .st l => k == l
  | _, _ => false

def BoolRes (r : Bool) (w : World) (e : Ending) (w' : World) : Prop := e = .returned (.bool r) ∧ Below w.heap.size w w'

structure Boxes (w W : World) (t u : Ty) (a b : Option Addr) : Prop where
  s : W.heap.size = w.heap.size + 2
  l : Below w.heap.size w W
  a : Cells9 W w.heap.size 0 t a
  b : Cells9 W (w.heap.size + 1) 0 u b

theorem boxes_mk (w : World) (t u : Ty) (a b : Option Addr) (x y : TypeId) : Boxes w ((w.alloc (.cells #[.int .i64 t.kind, .int .i64 t.size, .bool t.sg, .bool t.sc, .pointer a, .int .i64 t.len, .int .i64 t.num, .slice none 0 0, .pointer none] x)).alloc (.cells #[.int .i64 u.kind, .int .i64 u.size, .bool u.sg, .bool u.sc, .pointer b, .int .i64 u.len, .int .i64 u.num, .slice none 0 0, .pointer none] y)) t u a b := by
  refine ⟨by simp, ((Below.refl _ _).alloc (Nat.le_refl _) _).alloc (by simp) _, (cells9_alloc w t a x).alloc (by simp) _, cells9_at _ _ (by simp) _ _ _⟩

set_option maxHeartbeats 1000000 in
theorem same_kinds (t u : Ty) (a b : Option Addr) (h : (t.kind != u.kind) = true) (w : World) :
    Calls Try.prog 12 #[tyV t a, tyV u b] w (BoolRes false w) := by
  unfold tyV
  go_enter Try.func12, Try.ntmps12
  go_wp2_with fail
  go_ret
  exact ⟨rfl, ((Below.refl _ _).alloc (Nat.le_refl _) _).alloc (by simp) _⟩

set_option maxHeartbeats 1000000 in
theorem same_int (n : Int) (b c : Bool) (m : Int) (d e : Bool) (w : World) :
    Calls Try.prog 12 #[tyV (.int n b c) none, tyV (.int m d e) none] w (BoolRes (n == m && (b == d && c == e)) w) := by
  rw [tyV_int, tyV_int]
  by_cases h : n = m
  · subst h
    cases b <;> cases d <;> cases c <;> cases e
    all_goals
      go_enter Try.func12, Try.ntmps12
      go_wp2_with fail
      go_ret
      exact ⟨by simp, ((Below.refl _ _).alloc (Nat.le_refl _) _).alloc (by simp) _⟩
  · have h2 : (n == m) = false := by simpa using h
    clear h
    go_enter Try.func12, Try.ntmps12
    go_wp2_with fail
    go_ret
    exact ⟨by simp [h2], ((Below.refl _ _).alloc (Nat.le_refl _) _).alloc (by simp) _⟩

set_option maxHeartbeats 1000000 in
theorem same_st (k l : Int) (w : World) :
    Calls Try.prog 12 #[tyV (.st k) none, tyV (.st l) none] w (BoolRes (k == l) w) := by
  have e1 : ∀ k, tyV (.st k) none = .agg #[.int .i64 4, .int .i64 0, .bool false, .bool false, .pointer none, .int .i64 0, .int .i64 k, .slice none 0 0, .pointer none] := fun _ => rfl
  rw [e1, e1]
  clear e1
  go_enter Try.func12, Try.ntmps12
  go_wp2_with fail
  go_ret
  exact ⟨by simp, ((Below.refl _ _).alloc (Nat.le_refl _) _).alloc (by simp) _⟩

set_option maxHeartbeats 1000000 in
theorem same_void (w : World) :
    Calls Try.prog 12 #[tyV .void none, tyV .void none] w (BoolRes true w) := by
  have e1 : tyV .void none = .agg #[.int .i64 0, .int .i64 0, .bool false, .bool false, .pointer none, .int .i64 0, .int .i64 0, .slice none 0 0, .pointer none] := rfl
  rw [e1]
  clear e1
  go_enter Try.func12, Try.ntmps12
  go_wp2_with fail
  go_ret
  exact ⟨by simp, ((Below.refl _ _).alloc (Nat.le_refl _) _).alloc (by simp) _⟩

set_option maxHeartbeats 1000000 in
theorem same_len (t u : Ty) (n m : Int) (h : (n == m) = false) (a b : Option Addr) (w : World) :
    Calls Try.prog 12 #[tyV (.arr t n) a, tyV (.arr u m) b] w (BoolRes false w) := by
  rw [tyV_arr, tyV_arr]
  go_enter Try.func12, Try.ntmps12
  go_wp2_with fail
  have hbx := boxes_mk w (.arr t n) (.arr u m) a b 38 38
  generalize hW : (w.alloc (.cells #[.int .i64 3, .int .i64 0, .bool false, .bool false, .pointer a, .int .i64 n, .int .i64 0, .slice none 0 0, .pointer none] 38)).alloc (.cells #[.int .i64 3, .int .i64 0, .bool false, .bool false, .pointer b, .int .i64 m, .int .i64 0, .slice none 0 0, .pointer none] 38) = W
  have hbx' : Boxes w W (.arr t n) (.arr u m) a b := hW ▸ hbx
  have HBX := Lib.hid hbx'
  have p5 : W.cell? ⟨w.heap.size, 5, none⟩ = some (.int .i64 n) := hbx'.a.c5
  have q5 : W.cell? ⟨w.heap.size + 1, 5, none⟩ = some (.int .i64 m) := hbx'.b.c5
  have hd : decide (n = m) = false := by simpa using h
  have hd2 : n ≠ m := by simpa using h
  clear hW hbx hbx'
  go_quiet (fail)
  go_wp2
  go_ret
  exact ⟨rfl, below_drewN HBX.out.l _⟩

set_option maxHeartbeats 2000000 in
theorem same_ptr_step (t u : Ty) (ih : ∀ (a b : Option Addr) (w : World), ElAt w 0 w.heap.size t a → ElAt w 0 w.heap.size u b → Calls Try.prog 12 #[tyV t a, tyV u b] w (BoolRes (sameT t u) w))
    (p q : Nat) (a b : Option Addr) (w : World) (hp : p < w.heap.size) (hq : q < w.heap.size) (hcp : Cells9 w p 0 t a) (hcq : Cells9 w q 0 u b) (ha : ElAt w 0 w.heap.size t a) (hb : ElAt w 0 w.heap.size u b) :
    Calls Try.prog 12 #[tyV (.ptr t) (some ⟨p, 0, none⟩), tyV (.ptr u) (some ⟨q, 0, none⟩)] w (BoolRes (sameT t u) w) := by
  have HI := Lib.hid ih
  rw [tyV_ptr, tyV_ptr]
  clear ih
  have HCP := Lib.hid hcp
  have HCQ := Lib.hid hcq
  have HA := Lib.hid ha
  have HB := Lib.hid hb
  clear hcp hcq ha hb
  go_enter Try.func12, Try.ntmps12
  go_wp2_with fail
  have hbx := boxes_mk w (.ptr t) (.ptr u) (some ⟨p, 0, none⟩) (some ⟨q, 0, none⟩) 38 38
  generalize hW : (w.alloc (.cells #[.int .i64 2, .int .i64 8, .bool false, .bool false, .pointer (some ⟨p, 0, none⟩), .int .i64 0, .int .i64 0, .slice none 0 0, .pointer none] 38)).alloc (.cells #[.int .i64 2, .int .i64 8, .bool false, .bool false, .pointer (some ⟨q, 0, none⟩), .int .i64 0, .int .i64 0, .slice none 0 0, .pointer none] 38) = W
  have hbx' : Boxes w W (.ptr t) (.ptr u) (some ⟨p, 0, none⟩) (some ⟨q, 0, none⟩) := hW ▸ hbx
  have HBX := Lib.hid hbx'
  have p4 : W.cell? ⟨w.heap.size, 4, none⟩ = some (.pointer (some ⟨p, 0, none⟩)) := hbx'.a.c4
  have q4 : W.cell? ⟨w.heap.size + 1, 4, none⟩ = some (.pointer (some ⟨q, 0, none⟩)) := hbx'.b.c4
  clear hW hbx hbx'
  go_region_held3 (fun w' => w'.cell? ⟨w.heap.size, 4, none⟩ = some (.pointer (some ⟨p, 0, none⟩)) ∧ w'.cell? ⟨w.heap.size + 1, 4, none⟩ = some (.pointer (some ⟨q, 0, none⟩))) (go_keep)
    (first
      | (go_at_call 33
         (with_reducible refine (target_any p t a _ (HCP.out.below HBX.out.l.drew hp)).mono ?_)
         rintro e w1 ⟨rfl, hb1⟩
         have HB1 : Hid (Below W.heap.size W w1) := Lib.hid ((Below.refl _ _).drew.trans hb1)
         have p41 : w1.cell? ⟨w.heap.size, 4, none⟩ = some (.pointer (some ⟨p, 0, none⟩)) := by rw [HB1.out.cell (by simp [HBX.out.s])]; exact p4
         have q41 : w1.cell? ⟨w.heap.size + 1, 4, none⟩ = some (.pointer (some ⟨q, 0, none⟩)) := by rw [HB1.out.cell (by simp [HBX.out.s])]; exact q4
         clear hb1)
      | (go_at_call 33
         (with_reducible refine (target_any q u b _ ((HCQ.out.below HBX.out.l hq).below HB1.out (by have := HBX.out.s; omega))).mono ?_)
         rintro e w2 ⟨rfl, hb2⟩
         have HB2 : Hid (Below W.heap.size W w2) := Lib.hid (HB1.out.trans (hb2.mono HB1.out.size))
         have p42 : w2.cell? ⟨w.heap.size, 4, none⟩ = some (.pointer (some ⟨p, 0, none⟩)) := by rw [HB2.out.cell (by simp [HBX.out.s])]; exact p4
         have q42 : w2.cell? ⟨w.heap.size + 1, 4, none⟩ = some (.pointer (some ⟨q, 0, none⟩)) := by rw [HB2.out.cell (by simp [HBX.out.s])]; exact q4
         clear hb2)
      | (go_at_call 12
         (with_reducible refine (HI.out a b _ (((HA.out.below HBX.out.l (Nat.le_refl _)).below HB2.out (by have := HBX.out.s; omega)).mono (Nat.le_refl _) (by have := HBX.out.s; have := HB2.out.size; omega)) (((HB.out.below HBX.out.l (Nat.le_refl _)).below HB2.out (by have := HBX.out.s; omega)).mono (Nat.le_refl _) (by have := HBX.out.s; have := HB2.out.size; omega))).mono ?_)
         rintro e w3 ⟨rfl, hb3⟩
         have HB3 : Hid (Below W.heap.size W w3) := Lib.hid (HB2.out.trans (hb3.mono HB2.out.size))
         have p43 : w3.cell? ⟨w.heap.size, 4, none⟩ = some (.pointer (some ⟨p, 0, none⟩)) := by rw [HB3.out.cell (by simp [HBX.out.s])]; exact p4
         have q43 : w3.cell? ⟨w.heap.size + 1, 4, none⟩ = some (.pointer (some ⟨q, 0, none⟩)) := by rw [HB3.out.cell (by simp [HBX.out.s])]; exact q4
         clear hb3))
  go_wp2
  go_ret
  exact ⟨rfl, HBX.out.l.trans (HB3.out.mono (by have := HBX.out.s; omega))⟩

set_option maxHeartbeats 2000000 in
theorem same_arr_step (t u : Ty) (n : Int) (ih : ∀ (a b : Option Addr) (w : World), ElAt w 0 w.heap.size t a → ElAt w 0 w.heap.size u b → Calls Try.prog 12 #[tyV t a, tyV u b] w (BoolRes (sameT t u) w))
    (p q : Nat) (a b : Option Addr) (w : World) (hp : p < w.heap.size) (hq : q < w.heap.size) (hcp : Cells9 w p 0 t a) (hcq : Cells9 w q 0 u b) (ha : ElAt w 0 w.heap.size t a) (hb : ElAt w 0 w.heap.size u b) :
    Calls Try.prog 12 #[tyV (.arr t n) (some ⟨p, 0, none⟩), tyV (.arr u n) (some ⟨q, 0, none⟩)] w (BoolRes (sameT t u) w) := by
  have HI := Lib.hid ih
  rw [tyV_arr, tyV_arr]
  clear ih
  have HCP := Lib.hid hcp
  have HCQ := Lib.hid hcq
  have HA := Lib.hid ha
  have HB := Lib.hid hb
  clear hcp hcq ha hb
  go_enter Try.func12, Try.ntmps12
  go_wp2_with fail
  have hbx := boxes_mk w (.arr t n) (.arr u n) (some ⟨p, 0, none⟩) (some ⟨q, 0, none⟩) 38 38
  generalize hW : (w.alloc (.cells #[.int .i64 3, .int .i64 0, .bool false, .bool false, .pointer (some ⟨p, 0, none⟩), .int .i64 n, .int .i64 0, .slice none 0 0, .pointer none] 38)).alloc (.cells #[.int .i64 3, .int .i64 0, .bool false, .bool false, .pointer (some ⟨q, 0, none⟩), .int .i64 n, .int .i64 0, .slice none 0 0, .pointer none] 38) = W
  have hbx' : Boxes w W (.arr t n) (.arr u n) (some ⟨p, 0, none⟩) (some ⟨q, 0, none⟩) := hW ▸ hbx
  have HBX := Lib.hid hbx'
  have p4 : W.cell? ⟨w.heap.size, 4, none⟩ = some (.pointer (some ⟨p, 0, none⟩)) := hbx'.a.c4
  have q4 : W.cell? ⟨w.heap.size + 1, 4, none⟩ = some (.pointer (some ⟨q, 0, none⟩)) := hbx'.b.c4
  have p5 : W.cell? ⟨w.heap.size, 5, none⟩ = some (.int .i64 n) := hbx'.a.c5
  have q5 : W.cell? ⟨w.heap.size + 1, 5, none⟩ = some (.int .i64 n) := hbx'.b.c5
  clear hW hbx hbx'
  go_region_held3 (fun w' => w'.cell? ⟨w.heap.size, 4, none⟩ = some (.pointer (some ⟨p, 0, none⟩)) ∧ w'.cell? ⟨w.heap.size + 1, 4, none⟩ = some (.pointer (some ⟨q, 0, none⟩)) ∧ w'.cell? ⟨w.heap.size, 5, none⟩ = some (.int .i64 n) ∧ w'.cell? ⟨w.heap.size + 1, 5, none⟩ = some (.int .i64 n)) (go_keep)
    (first
      | (go_at_call 33
         (with_reducible refine (target_any p t a _ (HCP.out.below HBX.out.l.drew hp)).mono ?_)
         rintro e w1 ⟨rfl, hb1⟩
         have HB1 : Hid (Below W.heap.size W w1) := Lib.hid ((Below.refl _ _).drew.trans hb1)
         have p41 : w1.cell? ⟨w.heap.size, 4, none⟩ = some (.pointer (some ⟨p, 0, none⟩)) := by rw [HB1.out.cell (by simp [HBX.out.s])]; exact p4
         have q41 : w1.cell? ⟨w.heap.size + 1, 4, none⟩ = some (.pointer (some ⟨q, 0, none⟩)) := by rw [HB1.out.cell (by simp [HBX.out.s])]; exact q4
         have p51 : w1.cell? ⟨w.heap.size, 5, none⟩ = some (.int .i64 n) := by rw [HB1.out.cell (by simp [HBX.out.s])]; exact p5
         have q51 : w1.cell? ⟨w.heap.size + 1, 5, none⟩ = some (.int .i64 n) := by rw [HB1.out.cell (by simp [HBX.out.s])]; exact q5
         clear hb1)
      | (go_at_call 33
         (with_reducible refine (target_any q u b _ ((HCQ.out.below HBX.out.l hq).below HB1.out (by have := HBX.out.s; omega))).mono ?_)
         rintro e w2 ⟨rfl, hb2⟩
         have HB2 : Hid (Below W.heap.size W w2) := Lib.hid (HB1.out.trans (hb2.mono HB1.out.size))
         have p42 : w2.cell? ⟨w.heap.size, 4, none⟩ = some (.pointer (some ⟨p, 0, none⟩)) := by rw [HB2.out.cell (by simp [HBX.out.s])]; exact p4
         have q42 : w2.cell? ⟨w.heap.size + 1, 4, none⟩ = some (.pointer (some ⟨q, 0, none⟩)) := by rw [HB2.out.cell (by simp [HBX.out.s])]; exact q4
         have p52 : w2.cell? ⟨w.heap.size, 5, none⟩ = some (.int .i64 n) := by rw [HB2.out.cell (by simp [HBX.out.s])]; exact p5
         have q52 : w2.cell? ⟨w.heap.size + 1, 5, none⟩ = some (.int .i64 n) := by rw [HB2.out.cell (by simp [HBX.out.s])]; exact q5
         clear hb2)
      | (go_at_call 12
         (with_reducible refine (HI.out a b _ (((HA.out.below HBX.out.l (Nat.le_refl _)).below HB2.out (by have := HBX.out.s; omega)).mono (Nat.le_refl _) (by have := HBX.out.s; have := HB2.out.size; omega)) (((HB.out.below HBX.out.l (Nat.le_refl _)).below HB2.out (by have := HBX.out.s; omega)).mono (Nat.le_refl _) (by have := HBX.out.s; have := HB2.out.size; omega))).mono ?_)
         rintro e w3 ⟨rfl, hb3⟩
         have HB3 : Hid (Below W.heap.size W w3) := Lib.hid (HB2.out.trans (hb3.mono HB2.out.size))
         have p43 : w3.cell? ⟨w.heap.size, 4, none⟩ = some (.pointer (some ⟨p, 0, none⟩)) := by rw [HB3.out.cell (by simp [HBX.out.s])]; exact p4
         have q43 : w3.cell? ⟨w.heap.size + 1, 4, none⟩ = some (.pointer (some ⟨q, 0, none⟩)) := by rw [HB3.out.cell (by simp [HBX.out.s])]; exact q4
         have p53 : w3.cell? ⟨w.heap.size, 5, none⟩ = some (.int .i64 n) := by rw [HB3.out.cell (by simp [HBX.out.s])]; exact p5
         have q53 : w3.cell? ⟨w.heap.size + 1, 5, none⟩ = some (.int .i64 n) := by rw [HB3.out.cell (by simp [HBX.out.s])]; exact q5
         clear hb3))
  go_wp2
  go_ret
  exact ⟨rfl, HBX.out.l.trans (HB3.out.mono (by have := HBX.out.s; omega))⟩

theorem same_any (t : Ty) : ∀ (u : Ty) (a b : Option Addr) (w : World), ElAt w 0 w.heap.size t a → ElAt w 0 w.heap.size u b → Calls Try.prog 12 #[tyV t a, tyV u b] w (BoolRes (sameT t u) w) := by
  induction t with
  | void => intro u; cases u <;> intro a b w ha hb <;> first | exact same_kinds _ _ a b rfl w | (obtain rfl := ha; obtain rfl := hb; exact same_void w)
  | int n x y => intro u; cases u <;> intro a b w ha hb <;> first | exact same_kinds _ _ a b rfl w | (obtain rfl := ha; obtain rfl := hb; exact same_int _ _ _ _ _ _ w)
  | st k => intro u; cases u <;> intro a b w ha hb <;> first | exact same_kinds _ _ a b rfl w | (obtain rfl := ha; obtain rfl := hb; exact same_st _ _ w)
  | ptr t ih =>
    intro u
    cases u <;> intro a b w ha hb <;> first | exact same_kinds _ _ a b rfl w | skip
    obtain ⟨p, x, rfl, _, h1, h2, h3⟩ := ha
    obtain ⟨q, y, rfl, _, k1, k2, k3⟩ := hb
    exact same_ptr_step t _ (ih _) p q x y w h1 k1 h2 k2 h3 k3
  | arr t n ih =>
    intro u
    cases u <;> intro a b w ha hb <;> first | exact same_kinds _ _ a b rfl w | skip
    rename_i u m
    obtain ⟨p, x, rfl, _, h1, h2, h3⟩ := ha
    obtain ⟨q, y, rfl, _, k1, k2, k3⟩ := hb
    by_cases h : n = m
    · subst h
      have := same_arr_step t u n (ih u) p q x y w h1 k1 h2 k2 h3 k3
      have e : sameT (.arr t n) (.arr u n) = sameT t u := by simp [sameT]
      rw [e]; exact this
    · have h2 : (n == m) = false := by simpa using h
      have e : sameT (.arr t n) (.arr u m) = false := by simp [sameT, h2]
      rw [e]; exact same_len t u n m h2 _ _ w
end Go.Proofs.Ytoajcggiccfaiaa
