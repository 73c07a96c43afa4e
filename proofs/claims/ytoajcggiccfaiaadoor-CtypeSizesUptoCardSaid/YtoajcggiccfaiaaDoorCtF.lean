import Derived.Test.YtoajcggiccfaiaaDoorCtE
namespace Go.Proofs.YtoajcggiccfaiaaDoor
open Go Go.RowKit

set_option maxHeartbeats 2000000 in
theorem secret_arr (t : Ty) (n : Int) (ih : ∀ (el : Option Addr) (w : World), ElAt w 0 w.heap.size t el → Calls Tryd.prog 22 #[tyV t el] w (TyRes (secT t) w))
    (b : Nat) (el : Option Addr) (w : World) (hlt : b < w.heap.size) (hc : Cells9 w b 0 t el) (he : ElAt w 0 w.heap.size t el) :
    Calls Tryd.prog 22 #[tyV (.arr t n) (some ⟨b, 0, none⟩)] w (TyRes (.arr (secT t) n) w) := by
  have HC := Lib.hid hc
  have HE := Lib.hid he
  have HI := Lib.hid ih
  rw [tyV_arr]
  clear ih he hc
  go_enter Tryd.func22, Tryd.ntmps22
  go_wp2_with fail
  generalize hW : (w.alloc (.cells #[.int .i64 3, .int .i64 0, .bool false, .bool false, .pointer (some ⟨b, 0, none⟩), .int .i64 n, .int .i64 0, .slice none 0 0, .pointer none] 34)).alloc (.cells #[.int .i64 0, .int .i64 0, .bool false, .bool false, .pointer none, .int .i64 0, .int .i64 0, .slice none 0 0, .pointer none] 34) = W
  have hbW : Below w.heap.size w W := by rw [← hW]; exact ((Below.refl _ _).alloc (Nat.le_refl _) _).alloc (by simp) _
  have hsW : W.heap.size = w.heap.size + 2 := by rw [← hW]; simp
  have HBX := Lib.hid (box2 (t := .arr t n) (el := some ⟨b, 0, none⟩) (w := w) (w1 := W) (by have := Below.refl W.heap.size W; rw [← hW] at this ⊢; exact this))
  have H1 := HC.out.below hbW.drew hlt
  have H2 := ((HE.out.below hbW (Nat.le_refl _)).mono (Nat.le_refl _) (show w.heap.size ≤ W.heap.size by omega))
  have k4 : W.cell? ⟨w.heap.size, 4, none⟩ = some (.pointer (some ⟨b, 0, none⟩)) := HBX.out.a.c4
  have k5 : W.cell? ⟨w.heap.size, 5, none⟩ = some (.int .i64 n) := HBX.out.a.c5
  have HSW := Lib.hid hsW
  have HH1 := Lib.hid H1
  have HH2 := Lib.hid H2
  have HBW := Lib.hid hbW
  clear hW H1 H2 HC HE hsW hbW
  go_region_held3 (fun w' => w'.cell? ⟨w.heap.size, 4, none⟩ = some (.pointer (some ⟨b, 0, none⟩)) ∧ w'.cell? ⟨w.heap.size, 5, none⟩ = some (.int .i64 n)) (go_keep)
    (first
      | (go_at_call 26
         refine (target_any b t el _ HH1.out).mono ?_
         rintro e w1 ⟨rfl, hb1⟩
         have HB1 : Hid (Below W.heap.size W w1) := Lib.hid ((Below.refl _ _).drew.trans hb1)
         have k41 : w1.cell? ⟨w.heap.size, 4, none⟩ = some (.pointer (some ⟨b, 0, none⟩)) := by rw [HB1.out.cell (by simp [HSW.out])]; exact k4
         have k51 : w1.cell? ⟨w.heap.size, 5, none⟩ = some (.int .i64 n) := by rw [HB1.out.cell (by simp [HSW.out])]; exact k5
         clear hb1)
      | (go_at_call 22
         refine (HI.out el _ ((HH2.out.below HB1.out (Nat.le_refl _)).mono (Nat.le_refl _) HB1.out.size)).mono ?_
         rintro e w2 ⟨x, rfl, hx, hb2⟩
         have HB2 : Hid (Below W.heap.size W w2) := Lib.hid (HB1.out.trans (hb2.mono HB1.out.size))
         have k42 : w2.cell? ⟨w.heap.size, 4, none⟩ = some (.pointer (some ⟨b, 0, none⟩)) := by rw [HB2.out.cell (by simp [HSW.out])]; exact k4
         have k52 : w2.cell? ⟨w.heap.size, 5, none⟩ = some (.int .i64 n) := by rw [HB2.out.cell (by simp [HSW.out])]; exact k5
         have HX : Hid (ElAt w2 w1.heap.size w2.heap.size (secT t) x) := Lib.hid hx
         have HZ2 := Lib.hid hb2.size
         clear hx hb2)
      | (go_at_call 24
         refine (arrayOf_any (secT t) n x _ w1.heap.size HZ2.out HX.out).mono ?_
         rintro e w3 ⟨y, rfl, hy, hb3⟩
         have HB3 : Hid (Below W.heap.size W w3) := Lib.hid (HB2.out.trans (hb3.mono HB2.out.size))
         have k43 : w3.cell? ⟨w.heap.size, 4, none⟩ = some (.pointer (some ⟨b, 0, none⟩)) := by rw [HB3.out.cell (by simp [HSW.out])]; exact k4
         have k53 : w3.cell? ⟨w.heap.size, 5, none⟩ = some (.int .i64 n) := by rw [HB3.out.cell (by simp [HSW.out])]; exact k5
         have HY : Hid (ElAt w3 w1.heap.size w3.heap.size (.arr (secT t) n) y) := Lib.hid hy
         obtain ⟨r0, r1, r2, r3, r4, r5, r6, r7, r8⟩ := HBX.out.c.below HB3.out (by simp [HSW.out])
         obtain ⟨g0, g1, g2, g3, g4, g5, g6, g7, g8⟩ := HBX.out.d.below HB3.out (by simp [HSW.out])
         simp only [Nat.zero_add] at r1 r2 r3 r4 r5 r6 r7 r8
         have hz : w.heap.size + 1 < w3.heap.size := by have := HB3.out.size; have := HSW.out; omega
         rw [tyV_arr]
         clear hy hb3))
  have hE := HY.out
  have hz1 := HB1.out.size
  have hz0 := HSW.out
  have hbw := HBW.out.trans (HB3.out.mono (by omega))
  go_wp2
  refine bodyPost_ret (v := tyV (.arr (secT t) n) y) ?_ rfl ⟨y, rfl, ?_, ?_⟩
  · rw [tyV_arr]; simp [results, Tryd.results22, go_sem, r0, r1, r2, r3, r4, r5, r6, r7, r8]
  · simp only [World.size_setCell]
    refine ElAt.mono (lo := w1.heap.size) (by omega) (Nat.le_refl _) ?_
    ((repeat (first | (with_reducible exact hE) | (with_reducible apply ElAt.set_lo))) <;> first | omega | (simp <;> omega))
  · ((repeat (first | (with_reducible exact hbw) | (with_reducible apply Below.setCell) | (with_reducible apply Below.alloc))) <;> first | omega | (simp <;> omega))

theorem secret_any (t : Ty) : ∀ (el : Option Addr) (w : World), ElAt w 0 w.heap.size t el → Calls Tryd.prog 22 #[tyV t el] w (TyRes (secT t) w) := by
  induction t with
  | void => exact fun el w h => secret_fresh .void rfl rfl el w h
  | int n a b => rintro el w rfl; exact (secret_int n a b w).mono fun e w' ⟨h1, h2⟩ => ⟨none, h1, rfl, h2⟩
  | st k => exact fun el w h => secret_fresh (.st k) rfl rfl el w h
  | ptr t ih => exact fun el w h => secret_fresh (.ptr t) rfl rfl el w h
  | arr t n ih =>
    rintro el w ⟨b, e, rfl, _, h2, h3, h4⟩
    exact secret_arr t n ih b e w h2 h3 h4

end Go.Proofs.YtoajcggiccfaiaaDoor
