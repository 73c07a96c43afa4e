import Derived.Test.YtoajcggiccfaiaaCtU
namespace Go.Proofs.Ytoajcggiccfaiaa
open Go Go.RowKit

/-- A function's type: its two parameters at p, its result at r. -/
def fnV (p r : Nat) : Value := .agg #[.int .i64 5, .int .i64 0, .bool false, .bool false, .pointer none, .int .i64 0, .int .i64 0, .slice (some ⟨p, 0, none⟩) 2 2, .pointer (some ⟨r, 0, none⟩)]
structure Fun9 (w : World) (p r lim : Nat) (t1 t2 t0 : Ty) (e1 e2 e0 : Option Addr) : Prop where
  ps : Pair9 w p lim t1 t2 e1 e2
  c : Cells9 w r 0 t0 e0
  x : ElAt w 0 lim t0 e0
  lt : r < w.heap.size
theorem Fun9.below {w w' : World} {p r lim : Nat} {t1 t2 t0 : Ty} {e1 e2 e0 : Option Addr} (h : Fun9 w p r lim t1 t2 t0 e1 e2 e0) (hb : Below w.heap.size w w') : Fun9 w' p r lim t1 t2 t0 e1 e2 e0 :=
  ⟨h.ps.below hb, h.c.below hb h.lt, h.x.below hb h.ps.le, Nat.lt_of_lt_of_le h.lt hb.size⟩
theorem Fun9.el {w : World} {p r lim : Nat} {t1 t2 t0 : Ty} {e1 e2 e0 : Option Addr} (h : Fun9 w p r lim t1 t2 t0 e1 e2 e0) : ElAt w 0 w.heap.size t0 e0 := h.x.mono (Nat.le_refl _) h.ps.le

set_option maxHeartbeats 4000000 in
set_option maxRecDepth 100000 in
theorem same_fun_t (p r q s lim : Nat) (t1 t2 t0 u1 u2 u0 : Ty) (e1 e2 e0 x1 x2 x0 : Option Addr) (w : World) (hf : Fun9 w p r lim t1 t2 t0 e1 e2 e0) (hg : Fun9 w q s lim u1 u2 u0 x1 x2 x0) (hq : (sameT t1 u1 && sameT t2 u2) = true) :
    Calls Try.prog 12 #[fnV p r, fnV q s] w (BoolRes (sameT t0 u0) w) := by
  have HF := Lib.hid hf
  have HG := Lib.hid hg
  have HE := Lib.hid hq
  clear hf hg hq
  unfold fnV
  go_enter Try.func12, Try.ntmps12
  go_wp2_with fail
  have HBW0 : Below w.heap.size w ((w.alloc (.cells #[.int .i64 5, .int .i64 0, .bool false, .bool false, .pointer none, .int .i64 0, .int .i64 0, .slice (some ⟨p, 0, none⟩) 2 2, .pointer (some ⟨r, 0, none⟩)] 38)).alloc (.cells #[.int .i64 5, .int .i64 0, .bool false, .bool false, .pointer none, .int .i64 0, .int .i64 0, .slice (some ⟨q, 0, none⟩) 2 2, .pointer (some ⟨s, 0, none⟩)] 38)) := ((Below.refl _ _).alloc (Nat.le_refl _) _).alloc (by simp) _
  have hsz0 : ((w.alloc (.cells #[.int .i64 5, .int .i64 0, .bool false, .bool false, .pointer none, .int .i64 0, .int .i64 0, .slice (some ⟨p, 0, none⟩) 2 2, .pointer (some ⟨r, 0, none⟩)] 38)).alloc (.cells #[.int .i64 5, .int .i64 0, .bool false, .bool false, .pointer none, .int .i64 0, .int .i64 0, .slice (some ⟨q, 0, none⟩) 2 2, .pointer (some ⟨s, 0, none⟩)] 38)).heap.size = w.heap.size + 2 := by simp
  have p7 : ((w.alloc (.cells #[.int .i64 5, .int .i64 0, .bool false, .bool false, .pointer none, .int .i64 0, .int .i64 0, .slice (some ⟨p, 0, none⟩) 2 2, .pointer (some ⟨r, 0, none⟩)] 38)).alloc (.cells #[.int .i64 5, .int .i64 0, .bool false, .bool false, .pointer none, .int .i64 0, .int .i64 0, .slice (some ⟨q, 0, none⟩) 2 2, .pointer (some ⟨s, 0, none⟩)] 38)).cell? ⟨w.heap.size, 7, none⟩ = some (.slice (some ⟨p, 0, none⟩) 2 2) := by simp
  have q7 : ((w.alloc (.cells #[.int .i64 5, .int .i64 0, .bool false, .bool false, .pointer none, .int .i64 0, .int .i64 0, .slice (some ⟨p, 0, none⟩) 2 2, .pointer (some ⟨r, 0, none⟩)] 38)).alloc (.cells #[.int .i64 5, .int .i64 0, .bool false, .bool false, .pointer none, .int .i64 0, .int .i64 0, .slice (some ⟨q, 0, none⟩) 2 2, .pointer (some ⟨s, 0, none⟩)] 38)).cell? ⟨w.heap.size + 1, 7, none⟩ = some (.slice (some ⟨q, 0, none⟩) 2 2) := by simp
  have p8 : ((w.alloc (.cells #[.int .i64 5, .int .i64 0, .bool false, .bool false, .pointer none, .int .i64 0, .int .i64 0, .slice (some ⟨p, 0, none⟩) 2 2, .pointer (some ⟨r, 0, none⟩)] 38)).alloc (.cells #[.int .i64 5, .int .i64 0, .bool false, .bool false, .pointer none, .int .i64 0, .int .i64 0, .slice (some ⟨q, 0, none⟩) 2 2, .pointer (some ⟨s, 0, none⟩)] 38)).cell? ⟨w.heap.size, 8, none⟩ = some (.pointer (some ⟨r, 0, none⟩)) := by simp
  have q8 : ((w.alloc (.cells #[.int .i64 5, .int .i64 0, .bool false, .bool false, .pointer none, .int .i64 0, .int .i64 0, .slice (some ⟨p, 0, none⟩) 2 2, .pointer (some ⟨r, 0, none⟩)] 38)).alloc (.cells #[.int .i64 5, .int .i64 0, .bool false, .bool false, .pointer none, .int .i64 0, .int .i64 0, .slice (some ⟨q, 0, none⟩) 2 2, .pointer (some ⟨s, 0, none⟩)] 38)).cell? ⟨w.heap.size + 1, 8, none⟩ = some (.pointer (some ⟨s, 0, none⟩)) := by simp
  generalize (w.alloc (.cells #[.int .i64 5, .int .i64 0, .bool false, .bool false, .pointer none, .int .i64 0, .int .i64 0, .slice (some ⟨p, 0, none⟩) 2 2, .pointer (some ⟨r, 0, none⟩)] 38)).alloc (.cells #[.int .i64 5, .int .i64 0, .bool false, .bool false, .pointer none, .int .i64 0, .int .i64 0, .slice (some ⟨q, 0, none⟩) 2 2, .pointer (some ⟨s, 0, none⟩)] 38) = W at HBW0 hsz0 p7 q7 p8 q8 ⊢
  have HBW := Lib.hid HBW0
  have HSZ := Lib.hid hsz0
  clear HBW0 hsz0
  go_region_held3 (fun w' => w'.cell? ⟨w.heap.size, 7, none⟩ = some (.slice (some ⟨p, 0, none⟩) 2 2) ∧ w'.cell? ⟨w.heap.size + 1, 7, none⟩ = some (.slice (some ⟨q, 0, none⟩) 2 2) ∧ w'.cell? ⟨w.heap.size, 8, none⟩ = some (.pointer (some ⟨r, 0, none⟩)) ∧ w'.cell? ⟨w.heap.size + 1, 8, none⟩ = some (.pointer (some ⟨s, 0, none⟩))) (go_keep)
    (first
      | (go_at_call 34
         (with_reducible refine (eqf_any t1 t2 u1 u2 e1 e2 x1 x2 p q lim _ (HF.out.below HBW.out.drew).ps (HG.out.below HBW.out.drew).ps).mono ?_)
         rintro e w1 ⟨rfl, hb1⟩
         rw [HE.out]
         have HB1 : Hid (Below W.heap.size W w1) := Lib.hid ((Below.refl _ _).drew.trans hb1)
         have p71 : w1.cell? ⟨w.heap.size, 7, none⟩ = some (.slice (some ⟨p, 0, none⟩) 2 2) := by rw [HB1.out.cell (by simp [HSZ.out])]; exact p7
         have q71 : w1.cell? ⟨w.heap.size + 1, 7, none⟩ = some (.slice (some ⟨q, 0, none⟩) 2 2) := by rw [HB1.out.cell (by simp [HSZ.out])]; exact q7
         have p81 : w1.cell? ⟨w.heap.size, 8, none⟩ = some (.pointer (some ⟨r, 0, none⟩)) := by rw [HB1.out.cell (by simp [HSZ.out])]; exact p8
         have q81 : w1.cell? ⟨w.heap.size + 1, 8, none⟩ = some (.pointer (some ⟨s, 0, none⟩)) := by rw [HB1.out.cell (by simp [HSZ.out])]; exact q8
         clear hb1)
      | (go_at_call 33
         (with_reducible refine (target_any r t0 e0 _ ((HF.out.below HBW.out).below HB1.out).c).mono ?_)
         rintro e w2 ⟨rfl, hb2⟩
         have HB2 : Hid (Below W.heap.size W w2) := Lib.hid (HB1.out.trans (hb2.mono HB1.out.size))
         have p72 : w2.cell? ⟨w.heap.size, 7, none⟩ = some (.slice (some ⟨p, 0, none⟩) 2 2) := by rw [HB2.out.cell (by simp [HSZ.out])]; exact p7
         have q72 : w2.cell? ⟨w.heap.size + 1, 7, none⟩ = some (.slice (some ⟨q, 0, none⟩) 2 2) := by rw [HB2.out.cell (by simp [HSZ.out])]; exact q7
         have p82 : w2.cell? ⟨w.heap.size, 8, none⟩ = some (.pointer (some ⟨r, 0, none⟩)) := by rw [HB2.out.cell (by simp [HSZ.out])]; exact p8
         have q82 : w2.cell? ⟨w.heap.size + 1, 8, none⟩ = some (.pointer (some ⟨s, 0, none⟩)) := by rw [HB2.out.cell (by simp [HSZ.out])]; exact q8
         clear hb2)
      | (go_at_call 33
         (with_reducible refine (target_any s u0 x0 _ ((HG.out.below HBW.out).below HB2.out).c).mono ?_)
         rintro e w3 ⟨rfl, hb3⟩
         have HB3 : Hid (Below W.heap.size W w3) := Lib.hid (HB2.out.trans (hb3.mono HB2.out.size))
         have p73 : w3.cell? ⟨w.heap.size, 7, none⟩ = some (.slice (some ⟨p, 0, none⟩) 2 2) := by rw [HB3.out.cell (by simp [HSZ.out])]; exact p7
         have q73 : w3.cell? ⟨w.heap.size + 1, 7, none⟩ = some (.slice (some ⟨q, 0, none⟩) 2 2) := by rw [HB3.out.cell (by simp [HSZ.out])]; exact q7
         have p83 : w3.cell? ⟨w.heap.size, 8, none⟩ = some (.pointer (some ⟨r, 0, none⟩)) := by rw [HB3.out.cell (by simp [HSZ.out])]; exact p8
         have q83 : w3.cell? ⟨w.heap.size + 1, 8, none⟩ = some (.pointer (some ⟨s, 0, none⟩)) := by rw [HB3.out.cell (by simp [HSZ.out])]; exact q8
         clear hb3)
      | (go_at_call 12
         (with_reducible refine (same_any t0 u0 e0 x0 _ ((HF.out.below HBW.out).below HB3.out).el ((HG.out.below HBW.out).below HB3.out).el).mono ?_)
         rintro e w4 ⟨rfl, hb4⟩
         have HB4 : Hid (Below W.heap.size W w4) := Lib.hid (HB3.out.trans (hb4.mono HB3.out.size))
         have p74 : w4.cell? ⟨w.heap.size, 7, none⟩ = some (.slice (some ⟨p, 0, none⟩) 2 2) := by rw [HB4.out.cell (by simp [HSZ.out])]; exact p7
         have q74 : w4.cell? ⟨w.heap.size + 1, 7, none⟩ = some (.slice (some ⟨q, 0, none⟩) 2 2) := by rw [HB4.out.cell (by simp [HSZ.out])]; exact q7
         have p84 : w4.cell? ⟨w.heap.size, 8, none⟩ = some (.pointer (some ⟨r, 0, none⟩)) := by rw [HB4.out.cell (by simp [HSZ.out])]; exact p8
         have q84 : w4.cell? ⟨w.heap.size + 1, 8, none⟩ = some (.pointer (some ⟨s, 0, none⟩)) := by rw [HB4.out.cell (by simp [HSZ.out])]; exact q8
         clear hb4))
  go_wp2
  go_ret
  exact ⟨rfl, HBW.out.trans (HB4.out.mono (by have := HSZ.out; omega))⟩

set_option maxHeartbeats 4000000 in
set_option maxRecDepth 100000 in
theorem same_fun_f (p r q s lim : Nat) (t1 t2 t0 u1 u2 u0 : Ty) (e1 e2 e0 x1 x2 x0 : Option Addr) (w : World) (hf : Fun9 w p r lim t1 t2 t0 e1 e2 e0) (hg : Fun9 w q s lim u1 u2 u0 x1 x2 x0) (hq : (sameT t1 u1 && sameT t2 u2) = false) :
    Calls Try.prog 12 #[fnV p r, fnV q s] w (BoolRes (false) w) := by
  have HF := Lib.hid hf
  have HG := Lib.hid hg
  have HE := Lib.hid hq
  clear hf hg hq
  unfold fnV
  go_enter Try.func12, Try.ntmps12
  go_wp2_with fail
  have HBW0 : Below w.heap.size w ((w.alloc (.cells #[.int .i64 5, .int .i64 0, .bool false, .bool false, .pointer none, .int .i64 0, .int .i64 0, .slice (some ⟨p, 0, none⟩) 2 2, .pointer (some ⟨r, 0, none⟩)] 38)).alloc (.cells #[.int .i64 5, .int .i64 0, .bool false, .bool false, .pointer none, .int .i64 0, .int .i64 0, .slice (some ⟨q, 0, none⟩) 2 2, .pointer (some ⟨s, 0, none⟩)] 38)) := ((Below.refl _ _).alloc (Nat.le_refl _) _).alloc (by simp) _
  have hsz0 : ((w.alloc (.cells #[.int .i64 5, .int .i64 0, .bool false, .bool false, .pointer none, .int .i64 0, .int .i64 0, .slice (some ⟨p, 0, none⟩) 2 2, .pointer (some ⟨r, 0, none⟩)] 38)).alloc (.cells #[.int .i64 5, .int .i64 0, .bool false, .bool false, .pointer none, .int .i64 0, .int .i64 0, .slice (some ⟨q, 0, none⟩) 2 2, .pointer (some ⟨s, 0, none⟩)] 38)).heap.size = w.heap.size + 2 := by simp
  have p7 : ((w.alloc (.cells #[.int .i64 5, .int .i64 0, .bool false, .bool false, .pointer none, .int .i64 0, .int .i64 0, .slice (some ⟨p, 0, none⟩) 2 2, .pointer (some ⟨r, 0, none⟩)] 38)).alloc (.cells #[.int .i64 5, .int .i64 0, .bool false, .bool false, .pointer none, .int .i64 0, .int .i64 0, .slice (some ⟨q, 0, none⟩) 2 2, .pointer (some ⟨s, 0, none⟩)] 38)).cell? ⟨w.heap.size, 7, none⟩ = some (.slice (some ⟨p, 0, none⟩) 2 2) := by simp
  have q7 : ((w.alloc (.cells #[.int .i64 5, .int .i64 0, .bool false, .bool false, .pointer none, .int .i64 0, .int .i64 0, .slice (some ⟨p, 0, none⟩) 2 2, .pointer (some ⟨r, 0, none⟩)] 38)).alloc (.cells #[.int .i64 5, .int .i64 0, .bool false, .bool false, .pointer none, .int .i64 0, .int .i64 0, .slice (some ⟨q, 0, none⟩) 2 2, .pointer (some ⟨s, 0, none⟩)] 38)).cell? ⟨w.heap.size + 1, 7, none⟩ = some (.slice (some ⟨q, 0, none⟩) 2 2) := by simp
  have p8 : ((w.alloc (.cells #[.int .i64 5, .int .i64 0, .bool false, .bool false, .pointer none, .int .i64 0, .int .i64 0, .slice (some ⟨p, 0, none⟩) 2 2, .pointer (some ⟨r, 0, none⟩)] 38)).alloc (.cells #[.int .i64 5, .int .i64 0, .bool false, .bool false, .pointer none, .int .i64 0, .int .i64 0, .slice (some ⟨q, 0, none⟩) 2 2, .pointer (some ⟨s, 0, none⟩)] 38)).cell? ⟨w.heap.size, 8, none⟩ = some (.pointer (some ⟨r, 0, none⟩)) := by simp
  have q8 : ((w.alloc (.cells #[.int .i64 5, .int .i64 0, .bool false, .bool false, .pointer none, .int .i64 0, .int .i64 0, .slice (some ⟨p, 0, none⟩) 2 2, .pointer (some ⟨r, 0, none⟩)] 38)).alloc (.cells #[.int .i64 5, .int .i64 0, .bool false, .bool false, .pointer none, .int .i64 0, .int .i64 0, .slice (some ⟨q, 0, none⟩) 2 2, .pointer (some ⟨s, 0, none⟩)] 38)).cell? ⟨w.heap.size + 1, 8, none⟩ = some (.pointer (some ⟨s, 0, none⟩)) := by simp
  generalize (w.alloc (.cells #[.int .i64 5, .int .i64 0, .bool false, .bool false, .pointer none, .int .i64 0, .int .i64 0, .slice (some ⟨p, 0, none⟩) 2 2, .pointer (some ⟨r, 0, none⟩)] 38)).alloc (.cells #[.int .i64 5, .int .i64 0, .bool false, .bool false, .pointer none, .int .i64 0, .int .i64 0, .slice (some ⟨q, 0, none⟩) 2 2, .pointer (some ⟨s, 0, none⟩)] 38) = W at HBW0 hsz0 p7 q7 p8 q8 ⊢
  have HBW := Lib.hid HBW0
  have HSZ := Lib.hid hsz0
  clear HBW0 hsz0
  first | (go_region_with
    (first
      | (go_at_call 34
         (with_reducible refine (eqf_any t1 t2 u1 u2 e1 e2 x1 x2 p q lim _ (HF.out.below HBW.out.drew).ps (HG.out.below HBW.out.drew).ps).mono ?_)
         rintro e w1 ⟨rfl, hb1⟩
         rw [HE.out]
         have HB1 : Hid (Below W.heap.size W w1) := Lib.hid ((Below.refl _ _).drew.trans hb1)
         have p71 : w1.cell? ⟨w.heap.size, 7, none⟩ = some (.slice (some ⟨p, 0, none⟩) 2 2) := by rw [HB1.out.cell (by simp [HSZ.out])]; exact p7
         have q71 : w1.cell? ⟨w.heap.size + 1, 7, none⟩ = some (.slice (some ⟨q, 0, none⟩) 2 2) := by rw [HB1.out.cell (by simp [HSZ.out])]; exact q7
         have p81 : w1.cell? ⟨w.heap.size, 8, none⟩ = some (.pointer (some ⟨r, 0, none⟩)) := by rw [HB1.out.cell (by simp [HSZ.out])]; exact p8
         have q81 : w1.cell? ⟨w.heap.size + 1, 8, none⟩ = some (.pointer (some ⟨s, 0, none⟩)) := by rw [HB1.out.cell (by simp [HSZ.out])]; exact q8
         clear hb1))) | fail
  all_goals
    go_wp2
    go_ret
    exact ⟨rfl, HBW.out.trans (HB1.out.mono (by have := HSZ.out; omega))⟩

theorem same_fun (p r q s lim : Nat) (t1 t2 t0 u1 u2 u0 : Ty) (e1 e2 e0 x1 x2 x0 : Option Addr) (w : World) (hf : Fun9 w p r lim t1 t2 t0 e1 e2 e0) (hg : Fun9 w q s lim u1 u2 u0 x1 x2 x0) :
    Calls Try.prog 12 #[fnV p r, fnV q s] w (BoolRes ((sameT t1 u1 && sameT t2 u2) && sameT t0 u0) w) := by
  cases h : (sameT t1 u1 && sameT t2 u2) with
  | true => exact same_fun_t p r q s lim t1 t2 t0 u1 u2 u0 e1 e2 e0 x1 x2 x0 w hf hg h
  | false => exact same_fun_f p r q s lim t1 t2 t0 u1 u2 u0 e1 e2 e0 x1 x2 x0 w hf hg h
end Go.Proofs.Ytoajcggiccfaiaa
