import Derived.Test.YtoajcggiccfaiaaCtG
import Derived.StillTailTactics
namespace Go.Proofs.Ytoajcggiccfaiaa
open Go Go.RowKit

set_option maxHeartbeats 1000000 in
theorem rsame_kinds (t u : Ty) (a b : Option Addr) (h : (t.kind != u.kind) = true) (w : World) :
    Calls Try.prog 20 #[tyV t a, tyV u b] w (BoolRes false w) := by
  unfold tyV
  go_enter Try.func20, Try.ntmps20
  go_wp2_with fail
  go_ret
  exact ⟨rfl, ((Below.refl _ _).alloc (Nat.le_refl _) _).alloc (by simp) _⟩

set_option maxHeartbeats 1000000 in
theorem rsame_int (n : Int) (b c : Bool) (m : Int) (d e : Bool) (w : World) :
    Calls Try.prog 20 #[tyV (.int n b c) none, tyV (.int m d e) none] w (BoolRes (n == m && (b == d && c == e)) w) := by
  rw [tyV_int, tyV_int]
  by_cases h : n = m
  · subst h
    cases b <;> cases d <;> cases c <;> cases e
    all_goals
      go_enter Try.func20, Try.ntmps20
      go_wp2_with fail
      go_ret
      exact ⟨by simp, ((Below.refl _ _).alloc (Nat.le_refl _) _).alloc (by simp) _⟩
  · have h2 : (n == m) = false := by simpa using h
    clear h
    go_enter Try.func20, Try.ntmps20
    go_wp2_with fail
    go_ret
    exact ⟨by simp [h2], ((Below.refl _ _).alloc (Nat.le_refl _) _).alloc (by simp) _⟩

set_option maxHeartbeats 1000000 in
theorem rsame_st (k l : Int) (w : World) :
    Calls Try.prog 20 #[tyV (.st k) none, tyV (.st l) none] w (BoolRes (k == l) w) := by
  have e1 : ∀ k, tyV (.st k) none = .agg #[.int .i64 4, .int .i64 0, .bool false, .bool false, .pointer none, .int .i64 0, .int .i64 k, .slice none 0 0, .pointer none] := fun _ => rfl
  rw [e1, e1]
  clear e1
  go_enter Try.func20, Try.ntmps20
  go_wp2_with fail
  go_ret
  exact ⟨by simp, ((Below.refl _ _).alloc (Nat.le_refl _) _).alloc (by simp) _⟩

set_option maxHeartbeats 1000000 in
theorem rsame_void (w : World) :
    Calls Try.prog 20 #[tyV .void none, tyV .void none] w (BoolRes true w) := by
  have e1 : tyV .void none = .agg #[.int .i64 0, .int .i64 0, .bool false, .bool false, .pointer none, .int .i64 0, .int .i64 0, .slice none 0 0, .pointer none] := rfl
  rw [e1]
  clear e1
  go_enter Try.func20, Try.ntmps20
  go_wp2_with fail
  go_ret
  exact ⟨by simp, ((Below.refl _ _).alloc (Nat.le_refl _) _).alloc (by simp) _⟩

set_option maxHeartbeats 1000000 in
theorem rsame_len (t u : Ty) (n m : Int) (h : (n == m) = false) (a b : Option Addr) (w : World) :
    Calls Try.prog 20 #[tyV (.arr t n) a, tyV (.arr u m) b] w (BoolRes false w) := by
  rw [tyV_arr, tyV_arr]
  go_enter Try.func20, Try.ntmps20
  go_wp2_with fail
  have hbx := boxes_mk w (.arr t n) (.arr u m) a b 38 38
  generalize hW : (w.alloc (.cells #[.int .i64 3, .int .i64 0, .bool false, .bool false, .pointer a, .int .i64 n, .int .i64 0, .slice none 0 0, .pointer none] 38)).alloc (.cells #[.int .i64 3, .int .i64 0, .bool false, .bool false, .pointer b, .int .i64 m, .int .i64 0, .slice none 0 0, .pointer none] 38) = W
  have hbx' : Boxes w W (.arr t n) (.arr u m) a b := hW ▸ hbx
  have HBX := Lib.hid hbx'
  have p5 : W.cell? ⟨w.heap.size, 5, none⟩ = some (.int .i64 n) := hbx'.a.c5
  have q5 : W.cell? ⟨w.heap.size + 1, 5, none⟩ = some (.int .i64 m) := hbx'.b.c5
  have hd : decide (n = m) = false := by simpa using h
  have hd2 : n ≠ m := by simpa using h
  clear hW hbx hbx'
  go_quiet (fail)
  go_wp2
  go_ret
  exact ⟨rfl, below_drewN HBX.out.l _⟩


set_option maxHeartbeats 2000000 in
theorem rsame_ptr_step (t u : Ty) (ih : ∀ (a b : Option Addr) (w : World), ElAt w 0 w.heap.size t a → ElAt w 0 w.heap.size u b → Calls Try.prog 20 #[tyV t a, tyV u b] w (BoolRes (sameT t u) w))
    (p q : Nat) (a b : Option Addr) (w : World) (hp : p < w.heap.size) (hq : q < w.heap.size) (hcp : Cells9 w p 0 t a) (hcq : Cells9 w q 0 u b) (ha : ElAt w 0 w.heap.size t a) (hb : ElAt w 0 w.heap.size u b) :
    Calls Try.prog 20 #[tyV (.ptr t) (some ⟨p, 0, none⟩), tyV (.ptr u) (some ⟨q, 0, none⟩)] w (BoolRes (sameT t u) w) := by
  have HI := Lib.hid ih
  rw [tyV_ptr, tyV_ptr]
  clear ih
  have HCP := Lib.hid hcp
  have HCQ := Lib.hid hcq
  have HA := Lib.hid ha
  have HB := Lib.hid hb
  clear hcp hcq ha hb
  go_enter Try.func20, Try.ntmps20
  go_wp2_with fail
  have hbx := boxes_mk w (.ptr t) (.ptr u) (some ⟨p, 0, none⟩) (some ⟨q, 0, none⟩) 38 38
  generalize hW : (w.alloc (.cells #[.int .i64 2, .int .i64 8, .bool false, .bool false, .pointer (some ⟨p, 0, none⟩), .int .i64 0, .int .i64 0, .slice none 0 0, .pointer none] 38)).alloc (.cells #[.int .i64 2, .int .i64 8, .bool false, .bool false, .pointer (some ⟨q, 0, none⟩), .int .i64 0, .int .i64 0, .slice none 0 0, .pointer none] 38) = W
  have hbx' : Boxes w W (.ptr t) (.ptr u) (some ⟨p, 0, none⟩) (some ⟨q, 0, none⟩) := hW ▸ hbx
  have HBX := Lib.hid hbx'
  have p4 : W.cell? ⟨w.heap.size, 4, none⟩ = some (.pointer (some ⟨p, 0, none⟩)) := hbx'.a.c4
  have q4 : W.cell? ⟨w.heap.size + 1, 4, none⟩ = some (.pointer (some ⟨q, 0, none⟩)) := hbx'.b.c4
  clear hW hbx hbx'
  obtain ⟨x0, x1, x2, x3, x4, x5, x6, x7, x8⟩ := HCP.out.below HBX.out.l hp
  obtain ⟨y0, y1, y2, y3, y4, y5, y6, y7, y8⟩ := HCQ.out.below HBX.out.l hq
  simp only [Nat.zero_add] at x1 x2 x3 x4 x5 x6 x7 x8 y1 y2 y3 y4 y5 y6 y7 y8
  have hsz := HBX.out.s
  have hpl : p < W.heap.size := by omega
  have hql : q < W.heap.size := by omega
  have HS := Lib.hid hsz
  clear hsz
  go_still_tail 8, (by kernel_rfl)
  change wpList _ _ _ _ _ W.drew
  have HA2 : Hid (ElAt W.drew 0 W.drew.heap.size t a) := Lib.hid (((HA.out.below HBX.out.l.drew (Nat.le_refl _)).mono (Nat.le_refl _) (by have := HS.out; simp; omega)))
  have HB2 : Hid (ElAt W.drew 0 W.drew.heap.size u b) := Lib.hid (((HB.out.below HBX.out.l.drew (Nat.le_refl _)).mono (Nat.le_refl _) (by have := HS.out; simp; omega)))
  go_wp2_with fail
  refine (HI.out a b _ HA2.out HB2.out).mono ?_
  rintro e w3 ⟨rfl, hb3⟩
  have HB3 : Hid (Below W.heap.size W w3) := Lib.hid ((Below.refl _ _).drew.trans hb3)
  clear hb3
  go_wp2
  go_ret
  exact ⟨rfl, HBX.out.l.trans (HB3.out.mono (by have := HBX.out.s; omega))⟩

set_option maxHeartbeats 2000000 in
theorem rsame_arr_step (t u : Ty) (n : Int) (ih : ∀ (a b : Option Addr) (w : World), ElAt w 0 w.heap.size t a → ElAt w 0 w.heap.size u b → Calls Try.prog 20 #[tyV t a, tyV u b] w (BoolRes (sameT t u) w))
    (p q : Nat) (a b : Option Addr) (w : World) (hp : p < w.heap.size) (hq : q < w.heap.size) (hcp : Cells9 w p 0 t a) (hcq : Cells9 w q 0 u b) (ha : ElAt w 0 w.heap.size t a) (hb : ElAt w 0 w.heap.size u b) :
    Calls Try.prog 20 #[tyV (.arr t n) (some ⟨p, 0, none⟩), tyV (.arr u n) (some ⟨q, 0, none⟩)] w (BoolRes (sameT t u) w) := by
  have HI := Lib.hid ih
  rw [tyV_arr, tyV_arr]
  clear ih
  have HCP := Lib.hid hcp
  have HCQ := Lib.hid hcq
  have HA := Lib.hid ha
  have HB := Lib.hid hb
  clear hcp hcq ha hb
  go_enter Try.func20, Try.ntmps20
  go_wp2_with fail
  have hbx := boxes_mk w (.arr t n) (.arr u n) (some ⟨p, 0, none⟩) (some ⟨q, 0, none⟩) 38 38
  generalize hW : (w.alloc (.cells #[.int .i64 3, .int .i64 0, .bool false, .bool false, .pointer (some ⟨p, 0, none⟩), .int .i64 n, .int .i64 0, .slice none 0 0, .pointer none] 38)).alloc (.cells #[.int .i64 3, .int .i64 0, .bool false, .bool false, .pointer (some ⟨q, 0, none⟩), .int .i64 n, .int .i64 0, .slice none 0 0, .pointer none] 38) = W
  have hbx' : Boxes w W (.arr t n) (.arr u n) (some ⟨p, 0, none⟩) (some ⟨q, 0, none⟩) := hW ▸ hbx
  have HBX := Lib.hid hbx'
  have p4 : W.cell? ⟨w.heap.size, 4, none⟩ = some (.pointer (some ⟨p, 0, none⟩)) := hbx'.a.c4
  have q4 : W.cell? ⟨w.heap.size + 1, 4, none⟩ = some (.pointer (some ⟨q, 0, none⟩)) := hbx'.b.c4
  have p5 : W.cell? ⟨w.heap.size, 5, none⟩ = some (.int .i64 n) := hbx'.a.c5
  have q5 : W.cell? ⟨w.heap.size + 1, 5, none⟩ = some (.int .i64 n) := hbx'.b.c5
  clear hW hbx hbx'
  obtain ⟨x0, x1, x2, x3, x4, x5, x6, x7, x8⟩ := HCP.out.below HBX.out.l hp
  obtain ⟨y0, y1, y2, y3, y4, y5, y6, y7, y8⟩ := HCQ.out.below HBX.out.l hq
  simp only [Nat.zero_add] at x1 x2 x3 x4 x5 x6 x7 x8 y1 y2 y3 y4 y5 y6 y7 y8
  have hsz := HBX.out.s
  have hpl : p < W.heap.size := by omega
  have hql : q < W.heap.size := by omega
  have HS := Lib.hid hsz
  clear hsz
  go_still_tail 14, (by kernel_rfl)
  change wpList _ _ _ _ _ W.drew
  have HA2 : Hid (ElAt W.drew 0 W.drew.heap.size t a) := Lib.hid (((HA.out.below HBX.out.l.drew (Nat.le_refl _)).mono (Nat.le_refl _) (by have := HS.out; simp; omega)))
  have HB2 : Hid (ElAt W.drew 0 W.drew.heap.size u b) := Lib.hid (((HB.out.below HBX.out.l.drew (Nat.le_refl _)).mono (Nat.le_refl _) (by have := HS.out; simp; omega)))
  go_wp2_with fail
  refine (HI.out a b _ HA2.out HB2.out).mono ?_
  rintro e w3 ⟨rfl, hb3⟩
  have HB3 : Hid (Below W.heap.size W w3) := Lib.hid ((Below.refl _ _).drew.trans hb3)
  clear hb3
  go_wp2
  go_ret
  exact ⟨rfl, HBX.out.l.trans (HB3.out.mono (by have := HBX.out.s; omega))⟩
theorem rsame_any (t : Ty) : ∀ (u : Ty) (a b : Option Addr) (w : World), ElAt w 0 w.heap.size t a → ElAt w 0 w.heap.size u b → Calls Try.prog 20 #[tyV t a, tyV u b] w (BoolRes (sameT t u) w) := by
  induction t with
  | void => intro u; cases u <;> intro a b w ha hb <;> first | exact rsame_kinds _ _ a b rfl w | (obtain rfl := ha; obtain rfl := hb; exact rsame_void w)
  | int n x y => intro u; cases u <;> intro a b w ha hb <;> first | exact rsame_kinds _ _ a b rfl w | (obtain rfl := ha; obtain rfl := hb; exact rsame_int _ _ _ _ _ _ w)
  | st k => intro u; cases u <;> intro a b w ha hb <;> first | exact rsame_kinds _ _ a b rfl w | (obtain rfl := ha; obtain rfl := hb; exact rsame_st _ _ w)
  | ptr t ih =>
    intro u
    cases u <;> intro a b w ha hb <;> first | exact rsame_kinds _ _ a b rfl w | skip
    obtain ⟨p, x, rfl, _, h1, h2, h3⟩ := ha
    obtain ⟨q, y, rfl, _, k1, k2, k3⟩ := hb
    exact rsame_ptr_step t _ (ih _) p q x y w h1 k1 h2 k2 h3 k3
  | arr t n ih =>
    intro u
    cases u <;> intro a b w ha hb <;> first | exact rsame_kinds _ _ a b rfl w | skip
    rename_i u m
    obtain ⟨p, x, rfl, _, h1, h2, h3⟩ := ha
    obtain ⟨q, y, rfl, _, k1, k2, k3⟩ := hb
    by_cases h : n = m
    · subst h
      have := rsame_arr_step t u n (ih u) p q x y w h1 k1 h2 k2 h3 k3
      have e : sameT (.arr t n) (.arr u n) = sameT t u := by simp [sameT]
      rw [e]; exact this
    · have h2 : (n == m) = false := by simpa using h
      have e : sameT (.arr t n) (.arr u m) = false := by simp [sameT, h2]
      rw [e]; exact rsame_len t u n m h2 _ _ w
end Go.Proofs.Ytoajcggiccfaiaa
