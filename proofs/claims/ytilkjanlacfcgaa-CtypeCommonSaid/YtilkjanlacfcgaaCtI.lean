import Derived.Test.YtilkjanlacfcgaaCtH
namespace Go.Proofs.Ytilkjanlacfcgaa
open Go Go.RowKit

def AggRes (v : Value) (w : World) (e : Ending) (w' : World) : Prop := e = .returned v ∧ Below w.heap.size w w'
def comN (m1 m2 : Int) : Int := if m1 < m2 then m2 else m1
def comS (m1 m2 : Int) (s1 s2 : Bool) : Bool := if m1 = m2 then s1 && s2 else if m1 < m2 then s2 else s1

/-- Two variables that lie in two blocks of their own. -/
def TwoVars (W : World) (t u : Ty) (x y : Value) (wx : World) : Prop :=
  ∃ b5 b6 : Nat, x = .pointer (some ⟨b5, 0, none⟩) ∧ y = .pointer (some ⟨b6, 0, none⟩) ∧ b5 ≠ b6 ∧ W.heap.size ≤ b5 ∧ W.heap.size ≤ b6 ∧ b5 < wx.heap.size ∧ b6 < wx.heap.size ∧ Cells9 wx b5 0 t none ∧ Cells9 wx b6 0 u none ∧ Free9 wx b5 ∧ Free9 wx b6 ∧ Below W.heap.size W wx

def set9 (w : World) (b : Nat) (n : Int) (s c : Bool) : World := ((((((((w.setCell ⟨b, 0, none⟩ (.int .i64 1)).setCell ⟨b, 1, none⟩ (.int .i64 n)).setCell ⟨b, 2, none⟩ (.bool s)).setCell ⟨b, 3, none⟩ (.bool c)).setCell ⟨b, 4, none⟩ (.pointer none)).setCell ⟨b, 5, none⟩ (.int .i64 0)).setCell ⟨b, 6, none⟩ (.int .i64 0)).setCell ⟨b, 7, none⟩ (.slice none 0 0)).setCell ⟨b, 8, none⟩ (.pointer none)

theorem cells9_set9 (w : World) (b : Nat) (n : Int) (s c : Bool) {t : Ty} {el : Option Addr} (h : Cells9 w b 0 t el) : Cells9 (set9 w b n s c) b 0 (.int n s c) none := by
  obtain ⟨h0, h1, h2, h3, h4, h5, h6, h7, h8⟩ := h
  simp only [Nat.zero_add] at h1 h2 h3 h4 h5 h6 h7 h8
  unfold set9
  constructor <;> simp [go_sem, Ty.kind, Ty.size, Ty.sg, Ty.sc, Ty.len, Ty.num, h0, h1, h2, h3, h4, h5, h6, h7, h8]

theorem cells9_lit {w : World} {b : Nat} {n : Int} {s c : Bool} {t : Ty} {el : Option Addr} (h : Cells9 w b 0 t el) : Cells9 (((((((((w.setCell ⟨b, 0, none⟩ (.int .i64 1)).setCell ⟨b, 1, none⟩ (.int .i64 n)).setCell ⟨b, 2, none⟩ (.bool s)).setCell ⟨b, 3, none⟩ (.bool c)).setCell ⟨b, 4, none⟩ (.pointer none)).setCell ⟨b, 5, none⟩ (.int .i64 0)).setCell ⟨b, 6, none⟩ (.int .i64 0)).setCell ⟨b, 7, none⟩ (.slice none 0 0)).setCell ⟨b, 8, none⟩ (.pointer none)) b 0 (.int n s c) none := cells9_set9 w b n s c h

theorem cells9_fresh (w : World) (b : Nat) (n : Int) (s c : Bool) (ty : TypeId) (h : b = w.heap.size) : Cells9 (w.alloc (.cells #[.int .i64 1, .int .i64 n, .bool s, .bool c, .pointer none, .int .i64 0, .int .i64 0, .slice none 0 0, .pointer none] ty)) b 0 (.int n s c) none := by
  subst h; exact cells9_alloc w (.int n s c) none ty
theorem free9_setCell (w : World) (b : Nat) (p : Addr) (u : Value) (h : Free9 w b) : Free9 (w.setCell p u) b :=
  ⟨by simpa using h.f0, by simpa using h.f1, by simpa using h.f2, by simpa using h.f3, by simpa using h.f4, by simpa using h.f5, by simpa using h.f6, by simpa using h.f7, by simpa using h.f8⟩

theorem free9_alloc_old (w : World) (b : Nat) (o : Obj) (h : Free9 w b) (hb : b < w.heap.size) : Free9 (w.alloc o) b := h.below ((Below.refl _ _).alloc (Nat.le_refl _) o) hb
theorem free9_at (w : World) (b : Nat) (h : w.heap.size = b) (c0 c1 c2 c3 c4 c5 c6 c7 c8 : Value) (ty : TypeId) : Free9 (w.alloc (.cells #[c0, c1, c2, c3, c4, c5, c6, c7, c8] ty)) b := by
  subst h; exact free9_alloc _ _ _ _ _ _ _ _ _ _ _

theorem cells9_int_at (w : World) (b : Nat) (h : w.heap.size = b) (n : Int) (s c : Bool) (ty : TypeId) : Cells9 (w.alloc (.cells #[.int .i64 1, .int .i64 n, .bool s, .bool c, .pointer none, .int .i64 0, .int .i64 0, .slice none 0 0, .pointer none] ty)) b 0 (.int n s c) none := cells9_at w b h (.int n s c) none ty

theorem set9_far {w : World} {b b' : Nat} {n : Int} {s c : Bool} {t : Ty} {el : Option Addr} (h : Cells9 w b 0 t el) (hb : b' ≠ b) : Cells9 (set9 w b' n s c) b 0 t el := by
  unfold set9
  exact ((((((((h.setCell hb _).setCell hb _).setCell hb _).setCell hb _).setCell hb _).setCell hb _).setCell hb _).setCell hb _).setCell hb _
theorem free9_set9 {w : World} {b b' : Nat} {n : Int} {s c : Bool} (h : Free9 w b) : Free9 (set9 w b' n s c) b := by
  unfold set9
  exact free9_setCell _ _ _ _ (free9_setCell _ _ _ _ (free9_setCell _ _ _ _ (free9_setCell _ _ _ _ (free9_setCell _ _ _ _ (free9_setCell _ _ _ _ (free9_setCell _ _ _ _ (free9_setCell _ _ _ _ (free9_setCell _ _ _ _ h))))))))
theorem below_set9 {w0 w : World} {b' lo : Nat} {n : Int} {s c : Bool} (h : Below lo w0 w) (hl : lo ≤ b') : Below lo w0 (set9 w b' n s c) := by
  unfold set9
  exact ((((((((h.setCell hl _).setCell hl _).setCell hl _).setCell hl _).setCell hl _).setCell hl _).setCell hl _).setCell hl _).setCell hl _
theorem size_set9 {w : World} {b' : Nat} {n : Int} {s c : Bool} : (set9 w b' n s c).heap.size = w.heap.size := by unfold set9; simp

set_option maxHeartbeats 16000000 in
theorem common_core (n1 : Int) (b1 c1 : Bool) (n2 : Int) (b2 c2 : Bool) (m1 : Int) (s1 : Bool) (m2 : Int) (s2 : Bool)
    (h1 : ∀ w, Calls Try.prog 15 #[tyV (.int n1 b1 c1) none] w (AggRes (tyV (.int m1 s1 c1) none) w))
    (h2 : ∀ w, Calls Try.prog 15 #[tyV (.int n2 b2 c2) none] w (AggRes (tyV (.int m2 s2 c2) none) w))
    (w : World) :
    Calls Try.prog 14 #[tyV (.int n1 b1 c1) none, tyV (.int n2 b2 c2) none] w (AggRes (tyV (.int (comN m1 m2) (comS m1 m2 s1 s2) (c1 || c2)) none) w) := by
  have H1 := Lib.hid (fun w => (by have := h1 w; rw [tyV_int n1 b1 c1] at this; exact this))
  have H2 := Lib.hid (fun w => (by have := h2 w; rw [tyV_int n2 b2 c2] at this; exact this))
  clear h1 h2
  rw [tyV_int, tyV_int]
  go_enter Try.func14, Try.ntmps14
  go_upto_region 1 with fail
  generalize hW : ((w.alloc (.cells #[.int .i64 1, .int .i64 n1, .bool b1, .bool c1, .pointer none, .int .i64 0, .int .i64 0, .slice none 0 0, .pointer none] 38)).alloc (.cells #[.int .i64 1, .int .i64 n2, .bool b2, .bool c2, .pointer none, .int .i64 0, .int .i64 0, .slice none 0 0, .pointer none] 38)).alloc (.cells #[.int .i64 0, .int .i64 0, .bool false, .bool false, .pointer none, .int .i64 0, .int .i64 0, .slice none 0 0, .pointer none] 38) = W
  have hsW : W.heap.size = w.heap.size + 3 := by rw [← hW]; simp
  have hbW : Below w.heap.size w W := by rw [← hW]; exact (((Below.refl _ _).alloc (Nat.le_refl _) _).alloc (by simp) _).alloc (by simp; omega) _
  have hca : Cells9 W w.heap.size 0 (.int n1 b1 c1) none := by rw [← hW]; exact ((cells9_alloc w (.int n1 b1 c1) none _).alloc (by simp) _).alloc (by simp; omega) _
  have hcb : Cells9 W (w.heap.size + 1) 0 (.int n2 b2 c2) none := by rw [← hW]; exact (cells9_at _ _ (by simp) (.int n2 b2 c2) none _).alloc (by simp) _
  have hcr : Cells9 W (w.heap.size + 2) 0 .void none := by rw [← hW]; have := cells9_void ((w.alloc (.cells #[.int .i64 1, .int .i64 n1, .bool b1, .bool c1, .pointer none, .int .i64 0, .int .i64 0, .slice none 0 0, .pointer none] 38)).alloc (.cells #[.int .i64 1, .int .i64 n2, .bool b2, .bool c2, .pointer none, .int .i64 0, .int .i64 0, .slice none 0 0, .pointer none] 38)) 38; rw [World.size_alloc, World.size_alloc] at this; exact this
  have hfr : Free9 W (w.heap.size + 2) := by rw [← hW]; have := free9_alloc ((w.alloc (.cells #[.int .i64 1, .int .i64 n1, .bool b1, .bool c1, .pointer none, .int .i64 0, .int .i64 0, .slice none 0 0, .pointer none] 38)).alloc (.cells #[.int .i64 1, .int .i64 n2, .bool b2, .bool c2, .pointer none, .int .i64 0, .int .i64 0, .slice none 0 0, .pointer none] 38)) (.int .i64 0) (.int .i64 0) (.bool false) (.bool false) (.pointer none) (.int .i64 0) (.int .i64 0) (.slice none 0 0) (.pointer none) 38; rw [World.size_alloc, World.size_alloc] at this; exact this
  have HS := Lib.hid hsW
  have HBW := Lib.hid hbW
  have HCR := Lib.hid hcr
  have HFR := Lib.hid hfr
  have HCA := Lib.hid hca
  have HCB := Lib.hid hcb
  clear hW hsW hbW hcr hfr hca hcb
  go_cut [5, 6] (fun x y wx => TwoVars W (.int m1 s1 c1) (.int m2 s2 c2) x y wx)
  case first =>
    obtain ⟨x0, x1, x2, x3, x4, x5, x6, x7, x8⟩ := HCA.out
    obtain ⟨y0, y1, y2, y3, y4, y5, y6, y7, y8⟩ := HCB.out
    simp only [Nat.zero_add, Ty.kind, Ty.size, Ty.sg, Ty.sc, Ty.len, Ty.num] at x0 x1 x2 x3 x4 x5 x6 x7 x8 y0 y1 y2 y3 y4 y5 y6 y7 y8
    have hz : w.heap.size < W.heap.size := by have := HS.out; omega
    have hz1 : w.heap.size + 1 < W.heap.size := by have := HS.out; omega
    have neW1 : w.heap.size ≠ W.heap.size := by have := HS.out; omega
    have neW2 : W.heap.size ≠ w.heap.size := by have := HS.out; omega
    have neW3 : w.heap.size ≠ W.heap.size + 1 := by have := HS.out; omega
    have neW4 : W.heap.size + 1 ≠ w.heap.size := by have := HS.out; omega
    have neW5 : w.heap.size + 1 ≠ W.heap.size := by have := HS.out; omega
    have neW6 : W.heap.size ≠ w.heap.size + 1 := by have := HS.out; omega
    have neW7 : w.heap.size + 1 ≠ W.heap.size + 1 := by have := HS.out; omega
    have neW8 : W.heap.size + 1 ≠ w.heap.size + 1 := by have := HS.out; omega
    go_region_held3 (fun w' => w'.cell? ⟨w.heap.size, 0, none⟩ = some (.int .i64 1) ∧ w'.cell? ⟨w.heap.size, 1, none⟩ = some (.int .i64 n1) ∧ w'.cell? ⟨w.heap.size, 2, none⟩ = some (.bool b1) ∧ w'.cell? ⟨w.heap.size, 3, none⟩ = some (.bool c1) ∧ w'.cell? ⟨w.heap.size, 4, none⟩ = some (.pointer none) ∧ w'.cell? ⟨w.heap.size, 5, none⟩ = some (.int .i64 0) ∧ w'.cell? ⟨w.heap.size, 6, none⟩ = some (.int .i64 0) ∧ w'.cell? ⟨w.heap.size, 7, none⟩ = some (.slice none 0 0) ∧ w'.cell? ⟨w.heap.size, 8, none⟩ = some (.pointer none) ∧ w'.cell? ⟨w.heap.size + 1, 0, none⟩ = some (.int .i64 1) ∧ w'.cell? ⟨w.heap.size + 1, 1, none⟩ = some (.int .i64 n2) ∧ w'.cell? ⟨w.heap.size + 1, 2, none⟩ = some (.bool b2) ∧ w'.cell? ⟨w.heap.size + 1, 3, none⟩ = some (.bool c2) ∧ w'.cell? ⟨w.heap.size + 1, 4, none⟩ = some (.pointer none) ∧ w'.cell? ⟨w.heap.size + 1, 5, none⟩ = some (.int .i64 0) ∧ w'.cell? ⟨w.heap.size + 1, 6, none⟩ = some (.int .i64 0) ∧ w'.cell? ⟨w.heap.size + 1, 7, none⟩ = some (.slice none 0 0) ∧ w'.cell? ⟨w.heap.size + 1, 8, none⟩ = some (.pointer none)) (go_keep)
      (first
      | (go_at_call 15
         (with_reducible refine (H1.out _).mono ?_)
         rintro e w1 ⟨rfl, hb1⟩
         have HB1 : Hid (Below W.heap.size W w1) := Lib.hid (by refine Below.trans ?_ (hb1.mono ?_) <;> ((repeat (first | (with_reducible exact Below.refl _ _) | (with_reducible apply Below.drew) | (with_reducible apply Below.alloc))) <;> (simp <;> omega)))
         have hz1 : w.heap.size + 2 < w1.heap.size := by have := HB1.out.size; have := HS.out; omega
         have hz1a : w.heap.size < w1.heap.size := by omega
         have hz1b : w.heap.size + 1 < w1.heap.size := by omega
         have new11 : w.heap.size ≠ w1.heap.size := by have := HS.out; omega
         have new12 : w1.heap.size ≠ w.heap.size := by have := HS.out; omega
         have new13 : w.heap.size ≠ w1.heap.size + 1 := by have := HS.out; omega
         have new14 : w1.heap.size + 1 ≠ w.heap.size := by have := HS.out; omega
         have new15 : w.heap.size + 1 ≠ w1.heap.size := by have := HS.out; omega
         have new16 : w1.heap.size ≠ w.heap.size + 1 := by have := HS.out; omega
         have new17 : w.heap.size + 1 ≠ w1.heap.size + 1 := by have := HS.out; omega
         have new18 : w1.heap.size + 1 ≠ w.heap.size + 1 := by have := HS.out; omega
         try (have P1 : Hid (Cells9 w1 (W.heap.size) 0 .void none) := Lib.hid (by constructor <;> (rw [hb1.cell (by simp <;> omega)]; simp [Ty.kind, Ty.size, Ty.sg, Ty.sc, Ty.len, Ty.num]; done)); have P1F : Hid (Free9 w1 (W.heap.size)) := Lib.hid (by constructor <;> (rw [hb1.frozen (by simp <;> omega)]; simp; done)); have P1z : W.heap.size < w1.heap.size := (by have := hb1.size; simp at this; omega); skip)
         try (have Q1 : Hid (Cells9 w1 (W.heap.size + 1) 0 .void none) := Lib.hid (by constructor <;> (rw [hb1.cell (by simp <;> omega)]; simp [Ty.kind, Ty.size, Ty.sg, Ty.sc, Ty.len, Ty.num]; done)); have Q1F : Hid (Free9 w1 (W.heap.size + 1)) := Lib.hid (by constructor <;> (rw [hb1.frozen (by simp <;> omega)]; simp; done)); have Q1z : W.heap.size + 1 < w1.heap.size := (by have := hb1.size; simp at this; omega); skip)
         obtain ⟨hc1, hf1⟩ := bcell hb1
         have hs1 := hb1.size
         try (simp [go_sem] at hs1)
         have hS1 : ∀ o, w1.cell? ⟨w.heap.size, o, none⟩ = W.cell? ⟨w.heap.size, o, none⟩ := fun o => HB1.out.cell (by exact hz)
         have hT1 : ∀ o, w1.cell? ⟨w.heap.size + 1, o, none⟩ = W.cell? ⟨w.heap.size + 1, o, none⟩ := fun o => HB1.out.cell (by have := HS.out; show w.heap.size + 1 < W.heap.size; omega)
         try (have lt1 : W.heap.size < w1.heap.size := by omega)
         try (have lt1' : W.heap.size + 1 < w1.heap.size := by omega)
         clear hb1
         rw [tyV_int])
      | (go_at_call 15
         (with_reducible refine (H2.out _).mono ?_)
         rintro e w2 ⟨rfl, hb2⟩
         have HB12 : Hid (Below w1.heap.size w1 w2) := Lib.hid (by refine Below.trans ?_ (hb2.mono ?_) <;> ((repeat (first | (with_reducible exact Below.refl _ _) | (with_reducible apply Below.drew) | (with_reducible apply Below.alloc))) <;> (simp <;> omega)))
         have HB2 : Hid (Below W.heap.size W w2) := Lib.hid (HB1.out.trans (HB12.out.mono HB1.out.size))
         have hz2 : w.heap.size + 2 < w2.heap.size := by have := HB2.out.size; have := HS.out; omega
         have hz2a : w.heap.size < w2.heap.size := by omega
         have hz2b : w.heap.size + 1 < w2.heap.size := by omega
         have hWw1 : W.heap.size ≤ w1.heap.size := HB1.out.size
         try (have P2 : Hid (Cells9 w2 (W.heap.size) 0 .void none) := Lib.hid (P1.out.below HB12.out P1z); have P2F : Hid (Free9 w2 (W.heap.size)) := Lib.hid (P1F.out.below HB12.out P1z); have P2z : W.heap.size < w2.heap.size := (by have := HB12.out.size; omega); skip)
         try (have Q2 : Hid (Cells9 w2 (W.heap.size + 1) 0 .void none) := Lib.hid (Q1.out.below HB12.out Q1z); have Q2F : Hid (Free9 w2 (W.heap.size + 1)) := Lib.hid (Q1F.out.below HB12.out Q1z); have Q2z : W.heap.size + 1 < w2.heap.size := (by have := HB12.out.size; omega); skip)
         try (have R2 : Hid (Cells9 w2 (w1.heap.size) 0 .void none) := Lib.hid (by constructor <;> (rw [hb2.cell (by simp <;> omega)]; simp [Ty.kind, Ty.size, Ty.sg, Ty.sc, Ty.len, Ty.num]; done)); have R2F : Hid (Free9 w2 (w1.heap.size)) := Lib.hid (by constructor <;> (rw [hb2.frozen (by simp <;> omega)]; simp; done)); have R2z : w1.heap.size < w2.heap.size := (by have := hb2.size; simp at this; omega); skip)
         try (have T2 : Hid (Cells9 w2 (w1.heap.size + 1) 0 .void none) := Lib.hid (by constructor <;> (rw [hb2.cell (by simp <;> omega)]; simp [Ty.kind, Ty.size, Ty.sg, Ty.sc, Ty.len, Ty.num]; done)); have T2F : Hid (Free9 w2 (w1.heap.size + 1)) := Lib.hid (by constructor <;> (rw [hb2.frozen (by simp <;> omega)]; simp; done)); have T2z : w1.heap.size + 1 < w2.heap.size := (by have := hb2.size; simp at this; omega); skip)
         try (have k1 : W.heap.size ≠ w1.heap.size := (by omega); have k2 : w1.heap.size ≠ W.heap.size := (by omega))
         obtain ⟨hc2, hf2⟩ := bcell hb2
         have hs2 := hb2.size
         try (simp [go_sem] at hs2)
         have hS2 : ∀ o, w2.cell? ⟨w.heap.size, o, none⟩ = W.cell? ⟨w.heap.size, o, none⟩ := fun o => HB2.out.cell (by exact hz)
         have hT2 : ∀ o, w2.cell? ⟨w.heap.size + 1, o, none⟩ = W.cell? ⟨w.heap.size + 1, o, none⟩ := fun o => HB2.out.cell (by have := HS.out; show w.heap.size + 1 < W.heap.size; omega)
         try (have lt2 : W.heap.size < w2.heap.size := by omega)
         try (have lt2' : W.heap.size + 1 < w2.heap.size := by omega)
         try (have lt3 : w1.heap.size < w2.heap.size := by omega)
         try (have lt3' : w1.heap.size + 1 < w2.heap.size := by omega)
         have ne21 : w.heap.size ≠ w2.heap.size := by omega
         have ne22 : w2.heap.size ≠ w.heap.size := by omega
         have ne23 : w.heap.size ≠ w2.heap.size + 1 := by omega
         have ne24 : w2.heap.size + 1 ≠ w.heap.size := by omega
         have ne25 : w.heap.size + 1 ≠ w2.heap.size := by omega
         have ne26 : w2.heap.size ≠ w.heap.size + 1 := by omega
         clear hb2
         rw [tyV_int]))
    all_goals (go_wp2_with fail)
    all_goals
      go_meet
      clear hc1 hf1 hc2 hf2 hS1 hT1 hS2 hT2 x0 x1 x2 x3 x4 x5 x6 x7 x8 y0 y1 y2 y3 y4 y5 y6 y7 y8
      have hA := HB1.out.size
      have hB := HB12.out.size
      have hC := HB2.out
      refine ⟨_, _, rfl, rfl, ?_, ?_, ?_, ?_, ?_, ?_, ?_, ?_, ?_, ?_⟩
      · first | omega | (simp <;> omega)
      · first | omega | (simp <;> omega)
      · first | omega | (simp <;> omega)
      · first | omega | (simp <;> omega)
      · first | omega | (simp <;> omega)
      · repeat (first | (with_reducible exact P2.out) | (with_reducible exact Q2.out) | (with_reducible exact R2.out) | (with_reducible exact T2.out) | ((with_reducible refine cells9_fresh _ _ _ _ _ _ ?_); simp; done) | (with_reducible refine cells9_lit (t := .void) (el := none) ?_) | ((with_reducible refine Cells9.setCell ?_ ?_ _); rotate_left; (focus (first | (simp; done) | (simp; omega)))) | ((with_reducible refine Cells9.alloc ?_ ?_ _); rotate_left; (focus (first | omega | (simp; done) | (simp; omega)))))
      · repeat (first | (with_reducible exact P2.out) | (with_reducible exact Q2.out) | (with_reducible exact R2.out) | (with_reducible exact T2.out) | ((with_reducible refine cells9_fresh _ _ _ _ _ _ ?_); simp; done) | (with_reducible refine cells9_lit (t := .void) (el := none) ?_) | ((with_reducible refine Cells9.setCell ?_ ?_ _); rotate_left; (focus (first | (simp; done) | (simp; omega)))) | ((with_reducible refine Cells9.alloc ?_ ?_ _); rotate_left; (focus (first | omega | (simp; done) | (simp; omega)))))
      · repeat (first | (with_reducible exact P2F.out) | (with_reducible exact Q2F.out) | (with_reducible exact R2F.out) | (with_reducible exact T2F.out) | ((with_reducible refine free9_at _ _ ?_ _ _ _ _ _ _ _ _ _ _); simp; done) | (with_reducible refine free9_setCell _ _ _ _ ?_) | ((with_reducible refine free9_alloc_old _ _ _ ?_ ?_); rotate_left; (focus (first | omega | (simp; done) | (simp; omega)))))
      · repeat (first | (with_reducible exact P2F.out) | (with_reducible exact Q2F.out) | (with_reducible exact R2F.out) | (with_reducible exact T2F.out) | ((with_reducible refine free9_at _ _ ?_ _ _ _ _ _ _ _ _ _ _); simp; done) | (with_reducible refine free9_setCell _ _ _ _ ?_) | ((with_reducible refine free9_alloc_old _ _ _ ?_ ?_); rotate_left; (focus (first | omega | (simp; done) | (simp; omega)))))
      · (repeat (first | (with_reducible exact hC) | (with_reducible apply Below.setCell) | (with_reducible apply Below.drew) | (with_reducible apply Below.alloc)))
        all_goals first | omega | (simp; omega) | (simp; done)
  case rest =>
    obtain ⟨b5, b6, rfl, rfl, hne, hW5, hW6, h5, h6, hx, hy, hfx, hfy, hb⟩ := hcut
    obtain ⟨wo, rfl⟩ : ∃ wo : World, wo = wc := ⟨_, rfl⟩
    have HX := Lib.hid hx
    have HY := Lib.hid hy
    have HFX := Lib.hid hfx
    have HFY := Lib.hid hfy
    have HR := Lib.hid (HCR.out.below hb (by have := HS.out; omega))
    have HG := Lib.hid (HFR.out.below hb (by have := HS.out; omega))
    have HB := Lib.hid (HBW.out.trans (hb.mono (by have := HS.out; omega)))
    have HZ := Lib.hid (show w.heap.size + 2 < wo.heap.size by have := hb.size; have := HS.out; omega)
    have HL5 := Lib.hid (show w.heap.size + 2 < b5 by have := HS.out; omega)
    have HL6 := Lib.hid (show w.heap.size + 2 < b6 by have := HS.out; omega)
    have e5 : b6 ≠ b5 := Ne.symm hne
    clear hb hW5 hW6 H1 H2 hx hy hfx hfy HCR HFR HCA HCB
    rcases Int.lt_trichotomy m1 m2 with hlt | heq | hgt
    · have hd : (m2 == m1) = false := by simpa using (by omega : m2 ≠ m1)
      have E1 := Lib.hid (show comN m1 m2 = m2 by unfold comN; rw [if_pos hlt])
      have E2 := Lib.hid (show comS m1 m2 s1 s2 = s2 by unfold comS; rw [if_neg (by omega), if_pos hlt])
      obtain ⟨x0, x1, x2, x3, x4, x5, x6, x7, x8⟩ := HX.out
      obtain ⟨y0, y1, y2, y3, y4, y5, y6, y7, y8⟩ := HY.out
      obtain ⟨xf0, xf1, xf2, xf3, xf4, xf5, xf6, xf7, xf8⟩ := HFX.out
      obtain ⟨yf0, yf1, yf2, yf3, yf4, yf5, yf6, yf7, yf8⟩ := HFY.out
      obtain ⟨r0, r1, r2, r3, r4, r5, r6, r7, r8⟩ := HR.out
      obtain ⟨g0, g1, g2, g3, g4, g5, g6, g7, g8⟩ := HG.out
      have hz := HZ.out
      have l5 := HL5.out
      have l6 := HL6.out
      have e1 : b5 ≠ w.heap.size + 2 := by omega
      have e2 : b6 ≠ w.heap.size + 2 := by omega
      have e3 : w.heap.size + 2 ≠ b5 := Ne.symm e1
      have e4 : w.heap.size + 2 ≠ b6 := Ne.symm e2
      simp only [Nat.zero_add, Ty.kind, Ty.size, Ty.sg, Ty.sc, Ty.len, Ty.num] at x0 x1 x2 x3 x4 x5 x6 x7 x8 y0 y1 y2 y3 y4 y5 y6 y7 y8 r0 r1 r2 r3 r4 r5 r6 r7 r8
      go_upto_if 15 with fail
      go_cut [5] (fun s5 wx => s5 = .pointer (some ⟨b5, 0, none⟩) ∧ wx = set9 (set9 wo b5 m2 s2 c2) b6 m1 s1 c1)
      case first =>
        go_wp2_with fail
        go_meet
        exact ⟨rfl, rfl⟩
      case rest =>
        obtain ⟨rfl, hw⟩ := hcut
        clear x0 x1 x2 x3 x4 x5 x6 x7 x8 y0 y1 y2 y3 y4 y5 y6 y7 y8 xf0 xf1 xf2 xf3 xf4 xf5 xf6 xf7 xf8 yf0 yf1 yf2 yf3 yf4 yf5 yf6 yf7 yf8 r0 r1 r2 r3 r4 r5 r6 r7 r8 g0 g1 g2 g3 g4 g5 g6 g7 g8 hz l5 l6 e1 e2 e3 e4
        have HX := Lib.hid (show Cells9 wc b5 0 (.int m2 s2 c2) none by rw [hw]; exact set9_far (cells9_set9 _ _ _ _ _ HX.out) e5)
        have HY := Lib.hid (show Cells9 wc b6 0 (.int m1 s1 c1) none by rw [hw]; exact cells9_set9 _ _ _ _ _ (set9_far HY.out hne))
        have HFX := Lib.hid (show Free9 wc b5 by rw [hw]; exact free9_set9 (free9_set9 HFX.out))
        have HFY := Lib.hid (show Free9 wc b6 by rw [hw]; exact free9_set9 (free9_set9 HFY.out))
        have HR := Lib.hid (show Cells9 wc (w.heap.size + 2) 0 .void none by have := HL5.out; have := HL6.out; rw [hw]; exact set9_far (set9_far HR.out (by omega)) (by omega))
        have HG := Lib.hid (show Free9 wc (w.heap.size + 2) by rw [hw]; exact free9_set9 (free9_set9 HG.out))
        have HB := Lib.hid (show Below w.heap.size w wc by have := HL5.out; have := HL6.out; rw [hw]; exact below_set9 (below_set9 HB.out (by omega)) (by omega))
        have HZ := Lib.hid (show w.heap.size + 2 < wc.heap.size by rw [hw, size_set9, size_set9]; exact HZ.out)
        clear hw
        obtain ⟨x0, x1, x2, x3, x4, x5, x6, x7, x8⟩ := HX.out
        obtain ⟨y0, y1, y2, y3, y4, y5, y6, y7, y8⟩ := HY.out
        obtain ⟨xf0, xf1, xf2, xf3, xf4, xf5, xf6, xf7, xf8⟩ := HFX.out
        obtain ⟨yf0, yf1, yf2, yf3, yf4, yf5, yf6, yf7, yf8⟩ := HFY.out
        obtain ⟨r0, r1, r2, r3, r4, r5, r6, r7, r8⟩ := HR.out
        obtain ⟨g0, g1, g2, g3, g4, g5, g6, g7, g8⟩ := HG.out
        have hz := HZ.out
        have l5 := HL5.out
        have l6 := HL6.out
        have e1 : b5 ≠ w.heap.size + 2 := by omega
        have e2 : b6 ≠ w.heap.size + 2 := by omega
        have e3 : w.heap.size + 2 ≠ b5 := Ne.symm e1
        have e4 : w.heap.size + 2 ≠ b6 := Ne.symm e2
        simp only [Nat.zero_add, Ty.kind, Ty.size, Ty.sg, Ty.sc, Ty.len, Ty.num] at x0 x1 x2 x3 x4 x5 x6 x7 x8 y0 y1 y2 y3 y4 y5 y6 y7 y8 r0 r1 r2 r3 r4 r5 r6 r7 r8
        cases c1 <;> cases c2
        · go_wp2
          have hbw := HB.out
          refine bodyPost_ret (v := tyV (.int m2 s2 false) none) ?_ rfl ⟨by rw [E1.out, E2.out]; rfl, ?_⟩
          · rw [tyV_int]; simp [results, Try.results14, go_sem, r0, r1, r2, r3, r4, r5, r6, r7, r8]
          · ((repeat (first | (with_reducible exact hbw) | (with_reducible apply Below.setCell) | (with_reducible apply Below.alloc))) <;> first | omega | (simp <;> omega))
        · go_wp2
          have hbw := HB.out
          refine bodyPost_ret (v := tyV (.int m2 s2 true) none) ?_ rfl ⟨by rw [E1.out, E2.out]; rfl, ?_⟩
          · rw [tyV_int]; simp [results, Try.results14, go_sem, r0, r1, r2, r3, r4, r5, r6, r7, r8]
          · ((repeat (first | (with_reducible exact hbw) | (with_reducible apply Below.setCell) | (with_reducible apply Below.alloc))) <;> first | omega | (simp <;> omega))
        · go_wp2
          have hbw := HB.out
          refine bodyPost_ret (v := tyV (.int m2 s2 true) none) ?_ rfl ⟨by rw [E1.out, E2.out]; rfl, ?_⟩
          · rw [tyV_int]; simp [results, Try.results14, go_sem, r0, r1, r2, r3, r4, r5, r6, r7, r8]
          · ((repeat (first | (with_reducible exact hbw) | (with_reducible apply Below.setCell) | (with_reducible apply Below.alloc))) <;> first | omega | (simp <;> omega))
        · go_wp2
          have hbw := HB.out
          refine bodyPost_ret (v := tyV (.int m2 s2 true) none) ?_ rfl ⟨by rw [E1.out, E2.out]; rfl, ?_⟩
          · rw [tyV_int]; simp [results, Try.results14, go_sem, r0, r1, r2, r3, r4, r5, r6, r7, r8]
          · ((repeat (first | (with_reducible exact hbw) | (with_reducible apply Below.setCell) | (with_reducible apply Below.alloc))) <;> first | omega | (simp <;> omega))
    · subst heq
      have E1 := Lib.hid (show comN m1 m1 = m1 by unfold comN; rw [if_neg (by omega)])
      have E2 := Lib.hid (show comS m1 m1 s1 s2 = (s1 && s2) by unfold comS; rw [if_pos rfl])
      obtain ⟨x0, x1, x2, x3, x4, x5, x6, x7, x8⟩ := HX.out
      obtain ⟨y0, y1, y2, y3, y4, y5, y6, y7, y8⟩ := HY.out
      obtain ⟨xf0, xf1, xf2, xf3, xf4, xf5, xf6, xf7, xf8⟩ := HFX.out
      obtain ⟨yf0, yf1, yf2, yf3, yf4, yf5, yf6, yf7, yf8⟩ := HFY.out
      obtain ⟨r0, r1, r2, r3, r4, r5, r6, r7, r8⟩ := HR.out
      obtain ⟨g0, g1, g2, g3, g4, g5, g6, g7, g8⟩ := HG.out
      have hz := HZ.out
      have l5 := HL5.out
      have l6 := HL6.out
      have e1 : b5 ≠ w.heap.size + 2 := by omega
      have e2 : b6 ≠ w.heap.size + 2 := by omega
      have e3 : w.heap.size + 2 ≠ b5 := Ne.symm e1
      have e4 : w.heap.size + 2 ≠ b6 := Ne.symm e2
      simp only [Nat.zero_add, Ty.kind, Ty.size, Ty.sg, Ty.sc, Ty.len, Ty.num] at x0 x1 x2 x3 x4 x5 x6 x7 x8 y0 y1 y2 y3 y4 y5 y6 y7 y8 r0 r1 r2 r3 r4 r5 r6 r7 r8
      cases s1
      · cases c1 <;> cases c2
        · go_wp2
          have hbw := HB.out
          refine bodyPost_ret (v := tyV (.int m1 false false) none) ?_ rfl ⟨by rw [E1.out, E2.out]; rfl, ?_⟩
          · rw [tyV_int]; simp [results, Try.results14, go_sem, r0, r1, r2, r3, r4, r5, r6, r7, r8]
          · ((repeat (first | (with_reducible exact hbw) | (with_reducible apply Below.setCell) | (with_reducible apply Below.alloc))) <;> first | omega | (simp <;> omega))
        · go_wp2
          have hbw := HB.out
          refine bodyPost_ret (v := tyV (.int m1 false true) none) ?_ rfl ⟨by rw [E1.out, E2.out]; rfl, ?_⟩
          · rw [tyV_int]; simp [results, Try.results14, go_sem, r0, r1, r2, r3, r4, r5, r6, r7, r8]
          · ((repeat (first | (with_reducible exact hbw) | (with_reducible apply Below.setCell) | (with_reducible apply Below.alloc))) <;> first | omega | (simp <;> omega))
        · go_wp2
          have hbw := HB.out
          refine bodyPost_ret (v := tyV (.int m1 false true) none) ?_ rfl ⟨by rw [E1.out, E2.out]; rfl, ?_⟩
          · rw [tyV_int]; simp [results, Try.results14, go_sem, r0, r1, r2, r3, r4, r5, r6, r7, r8]
          · ((repeat (first | (with_reducible exact hbw) | (with_reducible apply Below.setCell) | (with_reducible apply Below.alloc))) <;> first | omega | (simp <;> omega))
        · go_wp2
          have hbw := HB.out
          refine bodyPost_ret (v := tyV (.int m1 false true) none) ?_ rfl ⟨by rw [E1.out, E2.out]; rfl, ?_⟩
          · rw [tyV_int]; simp [results, Try.results14, go_sem, r0, r1, r2, r3, r4, r5, r6, r7, r8]
          · ((repeat (first | (with_reducible exact hbw) | (with_reducible apply Below.setCell) | (with_reducible apply Below.alloc))) <;> first | omega | (simp <;> omega))
      · cases c1 <;> cases c2
        · go_wp2
          have hbw := HB.out
          refine bodyPost_ret (v := tyV (.int m1 s2 false) none) ?_ rfl ⟨by rw [E1.out, E2.out]; rfl, ?_⟩
          · rw [tyV_int]; simp [results, Try.results14, go_sem, r0, r1, r2, r3, r4, r5, r6, r7, r8]
          · ((repeat (first | (with_reducible exact hbw) | (with_reducible apply Below.setCell) | (with_reducible apply Below.alloc))) <;> first | omega | (simp <;> omega))
        · go_wp2
          have hbw := HB.out
          refine bodyPost_ret (v := tyV (.int m1 s2 true) none) ?_ rfl ⟨by rw [E1.out, E2.out]; rfl, ?_⟩
          · rw [tyV_int]; simp [results, Try.results14, go_sem, r0, r1, r2, r3, r4, r5, r6, r7, r8]
          · ((repeat (first | (with_reducible exact hbw) | (with_reducible apply Below.setCell) | (with_reducible apply Below.alloc))) <;> first | omega | (simp <;> omega))
        · go_wp2
          have hbw := HB.out
          refine bodyPost_ret (v := tyV (.int m1 s2 true) none) ?_ rfl ⟨by rw [E1.out, E2.out]; rfl, ?_⟩
          · rw [tyV_int]; simp [results, Try.results14, go_sem, r0, r1, r2, r3, r4, r5, r6, r7, r8]
          · ((repeat (first | (with_reducible exact hbw) | (with_reducible apply Below.setCell) | (with_reducible apply Below.alloc))) <;> first | omega | (simp <;> omega))
        · go_wp2
          have hbw := HB.out
          refine bodyPost_ret (v := tyV (.int m1 s2 true) none) ?_ rfl ⟨by rw [E1.out, E2.out]; rfl, ?_⟩
          · rw [tyV_int]; simp [results, Try.results14, go_sem, r0, r1, r2, r3, r4, r5, r6, r7, r8]
          · ((repeat (first | (with_reducible exact hbw) | (with_reducible apply Below.setCell) | (with_reducible apply Below.alloc))) <;> first | omega | (simp <;> omega))
    · have hd : (m1 == m2) = false := by simpa using (by omega : m1 ≠ m2)
      have E1 := Lib.hid (show comN m1 m2 = m1 by unfold comN; rw [if_neg (by omega)])
      have E2 := Lib.hid (show comS m1 m2 s1 s2 = s1 by unfold comS; rw [if_neg (by omega), if_neg (by omega)])
      obtain ⟨x0, x1, x2, x3, x4, x5, x6, x7, x8⟩ := HX.out
      obtain ⟨y0, y1, y2, y3, y4, y5, y6, y7, y8⟩ := HY.out
      obtain ⟨xf0, xf1, xf2, xf3, xf4, xf5, xf6, xf7, xf8⟩ := HFX.out
      obtain ⟨yf0, yf1, yf2, yf3, yf4, yf5, yf6, yf7, yf8⟩ := HFY.out
      obtain ⟨r0, r1, r2, r3, r4, r5, r6, r7, r8⟩ := HR.out
      obtain ⟨g0, g1, g2, g3, g4, g5, g6, g7, g8⟩ := HG.out
      have hz := HZ.out
      have l5 := HL5.out
      have l6 := HL6.out
      have e1 : b5 ≠ w.heap.size + 2 := by omega
      have e2 : b6 ≠ w.heap.size + 2 := by omega
      have e3 : w.heap.size + 2 ≠ b5 := Ne.symm e1
      have e4 : w.heap.size + 2 ≠ b6 := Ne.symm e2
      simp only [Nat.zero_add, Ty.kind, Ty.size, Ty.sg, Ty.sc, Ty.len, Ty.num] at x0 x1 x2 x3 x4 x5 x6 x7 x8 y0 y1 y2 y3 y4 y5 y6 y7 y8 r0 r1 r2 r3 r4 r5 r6 r7 r8
      cases c1 <;> cases c2
      · go_wp2
        have hbw := HB.out
        refine bodyPost_ret (v := tyV (.int m1 s1 false) none) ?_ rfl ⟨by rw [E1.out, E2.out]; rfl, ?_⟩
        · rw [tyV_int]; simp [results, Try.results14, go_sem, r0, r1, r2, r3, r4, r5, r6, r7, r8]
        · ((repeat (first | (with_reducible exact hbw) | (with_reducible apply Below.setCell) | (with_reducible apply Below.alloc))) <;> first | omega | (simp <;> omega))
      · go_wp2
        have hbw := HB.out
        refine bodyPost_ret (v := tyV (.int m1 s1 true) none) ?_ rfl ⟨by rw [E1.out, E2.out]; rfl, ?_⟩
        · rw [tyV_int]; simp [results, Try.results14, go_sem, r0, r1, r2, r3, r4, r5, r6, r7, r8]
        · ((repeat (first | (with_reducible exact hbw) | (with_reducible apply Below.setCell) | (with_reducible apply Below.alloc))) <;> first | omega | (simp <;> omega))
      · go_wp2
        have hbw := HB.out
        refine bodyPost_ret (v := tyV (.int m1 s1 true) none) ?_ rfl ⟨by rw [E1.out, E2.out]; rfl, ?_⟩
        · rw [tyV_int]; simp [results, Try.results14, go_sem, r0, r1, r2, r3, r4, r5, r6, r7, r8]
        · ((repeat (first | (with_reducible exact hbw) | (with_reducible apply Below.setCell) | (with_reducible apply Below.alloc))) <;> first | omega | (simp <;> omega))
      · go_wp2
        have hbw := HB.out
        refine bodyPost_ret (v := tyV (.int m1 s1 true) none) ?_ rfl ⟨by rw [E1.out, E2.out]; rfl, ?_⟩
        · rw [tyV_int]; simp [results, Try.results14, go_sem, r0, r1, r2, r3, r4, r5, r6, r7, r8]
        · ((repeat (first | (with_reducible exact hbw) | (with_reducible apply Below.setCell) | (with_reducible apply Below.alloc))) <;> first | omega | (simp <;> omega))
end Go.Proofs.Ytilkjanlacfcgaa
