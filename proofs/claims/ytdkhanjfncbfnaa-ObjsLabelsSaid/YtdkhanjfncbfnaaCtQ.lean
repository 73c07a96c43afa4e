import Derived.Test.YtdkhanjfncbfnaaCtP
namespace Go.Proofs.Ytdkhanjfncbfnaa
open Go Go.RowKit

theorem i64_and3 (n : Int) : bits .and .i64 n 3 = n % 4 := by
  have h3 : (BitVec.ofInt 64 3).toNat = 2 ^ 2 - 1 := by decide
  have key : (BitVec.ofInt 64 n &&& BitVec.ofInt 64 3).toNat = (n % ((2 ^ 64 : Nat) : Int)).toNat % 2 ^ 2 := by
    rw [BitVec.toNat_and, BitVec.toNat_ofInt, h3, Nat.and_two_pow_sub_one_eq_mod]
  show IntKind.i64.wrap ((BitVec.ofInt 64 n &&& BitVec.ofInt 64 3).toNat : Nat) = n % 4
  rw [key, IntKind.wrap_i64]
  omega

def set9T (w : World) (b : Nat) (t : Ty) (el : Option Addr) : World := ((((((((w.setCell ⟨b, 0, none⟩ (.int .i64 t.kind)).setCell ⟨b, 1, none⟩ (.int .i64 t.size)).setCell ⟨b, 2, none⟩ (.bool t.sg)).setCell ⟨b, 3, none⟩ (.bool t.sc)).setCell ⟨b, 4, none⟩ (.pointer el)).setCell ⟨b, 5, none⟩ (.int .i64 t.len)).setCell ⟨b, 6, none⟩ (.int .i64 t.num)).setCell ⟨b, 7, none⟩ (.slice none 0 0)).setCell ⟨b, 8, none⟩ (.pointer none)
theorem cells9_set9T (w : World) (b : Nat) (t : Ty) (el : Option Addr) {t0 : Ty} {el0 : Option Addr} (h : Cells9 w b 0 t0 el0) : Cells9 (set9T w b t el) b 0 t el := by
  obtain ⟨h0, h1, h2, h3, h4, h5, h6, h7, h8⟩ := h
  simp only [Nat.zero_add] at h1 h2 h3 h4 h5 h6 h7 h8
  unfold set9T
  constructor <;> simp [go_sem, h0, h1, h2, h3, h4, h5, h6, h7, h8]
theorem free9_set (w : World) (b : Nat) (p : Addr) (u : Value) (h : Free9 w b) : Free9 (w.setCell p u) b :=
  ⟨by simpa using h.f0, by simpa using h.f1, by simpa using h.f2, by simpa using h.f3, by simpa using h.f4, by simpa using h.f5, by simpa using h.f6, by simpa using h.f7, by simpa using h.f8⟩
theorem free9_set9T {w : World} {b b' : Nat} {t' : Ty} {el' : Option Addr} (h : Free9 w b) : Free9 (set9T w b' t' el') b := by
  unfold set9T
  exact free9_set _ _ _ _ (free9_set _ _ _ _ (free9_set _ _ _ _ (free9_set _ _ _ _ (free9_set _ _ _ _ (free9_set _ _ _ _ (free9_set _ _ _ _ (free9_set _ _ _ _ (free9_set _ _ _ _ h))))))))
theorem elAt_set9T {w : World} {b lo hi : Nat} {t t' : Ty} {el el' : Option Addr} (h : ElAt w lo hi t' el') (hb : b < lo) : ElAt (set9T w b t el) lo hi t' el' := by
  unfold set9T
  exact ((((((((h.set_lo hb _).set_lo hb _).set_lo hb _).set_lo hb _).set_lo hb _).set_lo hb _).set_lo hb _).set_lo hb _).set_lo hb _
theorem below_set9T {w0 w : World} {b' lo : Nat} {t : Ty} {el : Option Addr} (h : Below lo w0 w) (hl : lo ≤ b') : Below lo w0 (set9T w b' t el) := by
  unfold set9T
  exact ((((((((h.setCell hl _).setCell hl _).setCell hl _).setCell hl _).setCell hl _).setCell hl _).setCell hl _).setCell hl _).setCell hl _
theorem size_set9T {w : World} {b' : Nat} {t : Ty} {el : Option Addr} : (set9T w b' t el).heap.size = w.heap.size := by unfold set9T; simp

/-- A variable of a type at block T. -/
structure VarT (w : World) (T : Nat) (t : Ty) (el : Option Addr) : Prop where
  c : Cells9 w T 0 t el
  f : Free9 w T
  e : ElAt w (T + 1) w.heap.size t el
  l : T < w.heap.size
theorem VarT.put {w : World} {T : Nat} {t' : Ty} {el' : Option Addr} {t0 : Ty} {el0 : Option Addr} (hc : Cells9 w T 0 t0 el0) (hf : Free9 w T) (hl : T < w.heap.size) (he : ElAt w (T + 1) w.heap.size t' el') : VarT (set9T w T t' el') T t' el' :=
  ⟨cells9_set9T w T t' el' hc, free9_set9T hf, by rw [size_set9T]; exact elAt_set9T he (by omega), by rw [size_set9T]; exact hl⟩

theorem VarT.putInt {w : World} {T : Nat} (n : Int) (s c : Bool) {t0 : Ty} {el0 : Option Addr} (hc : Cells9 w T 0 t0 el0) (hf : Free9 w T) (hl : T < w.heap.size) (he : ElAt w (T + 1) w.heap.size (.int n s c) none) : VarT (((((((((w.setCell ⟨T, 0, none⟩ (.int .i64 1)).setCell ⟨T, 1, none⟩ (.int .i64 n)).setCell ⟨T, 2, none⟩ (.bool s)).setCell ⟨T, 3, none⟩ (.bool c)).setCell ⟨T, 4, none⟩ (.pointer none)).setCell ⟨T, 5, none⟩ (.int .i64 0)).setCell ⟨T, 6, none⟩ (.int .i64 0)).setCell ⟨T, 7, none⟩ (.slice none 0 0)).setCell ⟨T, 8, none⟩ (.pointer none)) T (.int n s c) none :=
  VarT.put (t' := (.int n s c)) (el' := none) hc hf hl he
theorem VarT.putPtr {w : World} {T : Nat} (t : Ty) (el : Option Addr) {t0 : Ty} {el0 : Option Addr} (hc : Cells9 w T 0 t0 el0) (hf : Free9 w T) (hl : T < w.heap.size) (he : ElAt w (T + 1) w.heap.size (.ptr t) el) : VarT (((((((((w.setCell ⟨T, 0, none⟩ (.int .i64 2)).setCell ⟨T, 1, none⟩ (.int .i64 8)).setCell ⟨T, 2, none⟩ (.bool false)).setCell ⟨T, 3, none⟩ (.bool false)).setCell ⟨T, 4, none⟩ (.pointer el)).setCell ⟨T, 5, none⟩ (.int .i64 0)).setCell ⟨T, 6, none⟩ (.int .i64 0)).setCell ⟨T, 7, none⟩ (.slice none 0 0)).setCell ⟨T, 8, none⟩ (.pointer none)) T (.ptr t) el :=
  VarT.put (t' := (.ptr t)) (el' := el) hc hf hl he
theorem VarT.putArr {w : World} {T : Nat} (t : Ty) (n : Int) (el : Option Addr) {t0 : Ty} {el0 : Option Addr} (hc : Cells9 w T 0 t0 el0) (hf : Free9 w T) (hl : T < w.heap.size) (he : ElAt w (T + 1) w.heap.size (.arr t n) el) : VarT (((((((((w.setCell ⟨T, 0, none⟩ (.int .i64 3)).setCell ⟨T, 1, none⟩ (.int .i64 0)).setCell ⟨T, 2, none⟩ (.bool false)).setCell ⟨T, 3, none⟩ (.bool false)).setCell ⟨T, 4, none⟩ (.pointer el)).setCell ⟨T, 5, none⟩ (.int .i64 n)).setCell ⟨T, 6, none⟩ (.int .i64 0)).setCell ⟨T, 7, none⟩ (.slice none 0 0)).setCell ⟨T, 8, none⟩ (.pointer none)) T (.arr t n) el :=
  VarT.put (t' := (.arr t n)) (el' := el) hc hf hl he
theorem VarT.putSt {w : World} {T : Nat} (k : Int) {t0 : Ty} {el0 : Option Addr} (hc : Cells9 w T 0 t0 el0) (hf : Free9 w T) (hl : T < w.heap.size) (he : ElAt w (T + 1) w.heap.size (.st k) none) : VarT (((((((((w.setCell ⟨T, 0, none⟩ (.int .i64 4)).setCell ⟨T, 1, none⟩ (.int .i64 0)).setCell ⟨T, 2, none⟩ (.bool false)).setCell ⟨T, 3, none⟩ (.bool false)).setCell ⟨T, 4, none⟩ (.pointer none)).setCell ⟨T, 5, none⟩ (.int .i64 0)).setCell ⟨T, 6, none⟩ (.int .i64 k)).setCell ⟨T, 7, none⟩ (.slice none 0 0)).setCell ⟨T, 8, none⟩ (.pointer none)) T (.st k) none :=
  VarT.put (t' := (.st k)) (el' := none) hc hf hl he

theorem elAt_st (w : World) (lo hi : Nat) (k : Int) : ElAt w lo hi (.st k) none := rfl
theorem VarT.alloc {w : World} {T : Nat} {t : Ty} {el : Option Addr} (h : VarT w T t el) (o : Obj) : VarT (w.alloc o) T t el :=
  ⟨h.c.alloc h.l o, h.f.below ((Below.refl _ _).alloc (Nat.le_refl _) o) h.l, (h.e.alloc (Nat.le_refl _) o).mono (Nat.le_refl _) (by simp), by have := h.l; simp; omega⟩

/-- The steps of a shape: whole numbers, two by two. -/
def Steps (w : World) (a : Option Addr) (len : Nat) : Prop := len = 0 ∨ ∃ b off : Nat, a = some ⟨b, off, none⟩ ∧ ∀ i, i < len → ∃ p q : Int, w.cell? ⟨b, off + i * 2, none⟩ = some (.int .i64 p) ∧ w.cell? ⟨b, off + i * 2 + 1, none⟩ = some (.int .i64 q)

def TypeRes (w : World) (e : Ending) (w' : World) : Prop := ∃ t el b, e = .returned (.tuple #[tyV t el, .bool b]) ∧ ElAt w' w.heap.size w'.heap.size t el ∧ Below w.heap.size w w'

/-- Where t lies, after its first value. -/
theorem cells9_new (w : World) (b : Nat) (h : w.heap.size = b) (n : Int) (s c : Bool) (ty : TypeId) : Cells9 (w.alloc (.cells #[.int .i64 1, .int .i64 n, .bool s, .bool c, .pointer none, .int .i64 0, .int .i64 0, .slice none 0 0, .pointer none] ty)) b 0 (.int n s c) none := cells9_at w b h (.int n s c) none ty
theorem free9_new (w : World) (b : Nat) (h : w.heap.size = b) (c0 c1 c2 c3 c4 c5 c6 c7 c8 : Value) (ty : TypeId) : Free9 (w.alloc (.cells #[c0, c1, c2, c3, c4, c5, c6, c7, c8] ty)) b := by
  subst h; exact free9_alloc _ _ _ _ _ _ _ _ _ _ _
def Cut1 (W : World) (s4 : Value) (wx : World) : Prop := ∃ T t, s4 = .pointer (some ⟨T, 0, none⟩) ∧ VarT wx T t none ∧ t.kind = 1 ∧ W.heap.size ≤ T ∧ Below W.heap.size W wx

theorem int_of_kind {t : Ty} (h : t.kind = 1) : ∃ n b c, t = .int n b c := by
  cases t <;> simp [Ty.kind] at h
  exact ⟨_, _, _, rfl⟩

set_option maxRecDepth 100000 in
set_option maxHeartbeats 8000000 in
theorem type_any (n : Int) (a : Option Addr) (len cap : Nat) (hlen : len ≤ 9223372036854775807) (w : World) (hs : Steps w a len) (hbl : 0 < len → ∀ x, a = some x → x.block < w.heap.size) :
    Calls Try.prog 14 #[.agg #[.int .i64 n, .slice a len cap]] w (TypeRes w) := by
  have HST := Lib.hid hs
  have HBL0 := Lib.hid hbl
  clear hs hbl
  obtain ⟨q3, hq3, hq30, hq31⟩ : ∃ q, bits .and .i64 n 3 = q ∧ 0 ≤ q ∧ q ≤ 3 := ⟨n % 4, i64_and3 n, by omega, by omega⟩
  go_enter Try.func14, Try.ntmps14
  go_upto_region 1 with fail
  generalize hW : (w.alloc (.cells #[.int .i64 n, .slice a len cap] 44)).alloc (.cells #[.int .i64 0, .int .i64 0, .bool false, .bool false, .pointer none, .int .i64 0, .int .i64 0, .slice none 0 0, .pointer none] 57) = W
  have hB0 : Below w.heap.size w W := by rw [← hW]; exact ((Below.refl _ _).alloc (Nat.le_refl _) _).alloc (by simp) _
  have hsW : W.heap.size = w.heap.size + 2 := by rw [← hW]; simp
  have b0 : W.cell? ⟨w.heap.size, 0, none⟩ = some (.int .i64 n) := by rw [← hW]; simp
  have b1 : W.cell? ⟨w.heap.size, 1, none⟩ = some (.slice a len cap) := by rw [← hW]; simp
  have hvr : Cells9 W (w.heap.size + 1) 0 .void none := by rw [← hW]; have := cells9_void (w.alloc (.cells #[.int .i64 n, .slice a len cap] 44)) 57; rw [World.size_alloc] at this; exact this
  have hfr : Free9 W (w.heap.size + 1) := by rw [← hW]; have := free9_alloc (w.alloc (.cells #[.int .i64 n, .slice a len cap] 44)) (.int .i64 0) (.int .i64 0) (.bool false) (.bool false) (.pointer none) (.int .i64 0) (.int .i64 0) (.slice none 0 0) (.pointer none) 57; rw [World.size_alloc] at this; exact this
  have HB0 := Lib.hid hB0
  have HSW := Lib.hid hsW
  have HVR := Lib.hid hvr
  have HFR := Lib.hid hfr
  have HK0 := Lib.hid b0
  have HK1 := Lib.hid b1
  have bl : w.heap.size < W.heap.size := by omega
  have bn : w.heap.size ≠ W.heap.size := by omega
  have bn' : W.heap.size ≠ w.heap.size := by omega
  clear hW hB0 hsW hvr hfr b1
  go_cut [4] (fun s4 wx => Cut1 W s4 wx)
  case first =>
    rcases (show q3 = 0 ∨ q3 = 1 ∨ q3 = 2 ∨ q3 = 3 by omega) with rfl | rfl | rfl | rfl
    · clear hq30 hq31
      have hwr : IntKind.i64.wrap 1 = 1 := by decide
      go_region_held3 (fun w' => w'.cell? ⟨w.heap.size, 0, none⟩ = some (.int .i64 n)) (go_keep)
        (first
          | (go_at_call 24
             refine (CintOf_any _ _ _).mono ?_
             rintro e w1 ⟨rfl, hb1⟩
             have HB1 : Hid (Below W.heap.size W w1) := Lib.hid (by refine Below.trans ?_ (hb1.mono ?_) <;> ((repeat (first | (with_reducible exact Below.refl _ _) | (with_reducible apply Below.drew) | (with_reducible apply Below.alloc))) <;> (simp <;> omega)))
             have b01 : w1.cell? ⟨w.heap.size, 0, none⟩ = some (.int .i64 n) := by rw [HB1.out.cell (by exact bl)]; exact b0
             have bl1 : w.heap.size < w1.heap.size := by have := HB1.out.size; omega
             have bn1 : w.heap.size ≠ w1.heap.size := by omega
             have bn1' : w1.heap.size ≠ w.heap.size := by omega
             try (have P1 : Hid (Cells9 w1 W.heap.size 0 .void none) := Lib.hid (by constructor <;> (rw [hb1.cell (by simp <;> omega)]; simp [Ty.kind, Ty.size, Ty.sg, Ty.sc, Ty.len, Ty.num]; done)); have P1F : Hid (Free9 w1 W.heap.size) := Lib.hid (by constructor <;> (rw [hb1.frozen (by simp <;> omega)]; simp; done)); have P1z : W.heap.size < w1.heap.size := (by have := hb1.size; simp at this; omega); obtain ⟨p0, p1, p2, p3, p4, p5, p6, p7, p8⟩ := P1.out; obtain ⟨pf0, pf1, pf2, pf3, pf4, pf5, pf6, pf7, pf8⟩ := P1F.out; simp only [Nat.zero_add, Ty.kind, Ty.size, Ty.sg, Ty.sc, Ty.len, Ty.num] at p0 p1 p2 p3 p4 p5 p6 p7 p8)
             clear hb1
             rw [tyV_int]))
      all_goals
        go_wp2_with fail
        go_meet
        have hA := HB1.out.size
        refine ⟨_, .int 1 (bits .and .i64 n 4 == 0) false, rfl, ?_, rfl, ?_, ?_⟩
        · first | (have hp := P1.out; exact (VarT.putInt _ _ _ hp P1F.out P1z rfl)) | exact ⟨cells9_new _ _ rfl _ _ _ _, free9_new _ _ rfl _ _ _ _ _ _ _ _ _ _, rfl, by simp⟩
        · first | omega | (simp <;> omega)
        · have hC := HB1.out
          ((repeat (first | (with_reducible exact hC) | (with_reducible apply Below.setCell) | (with_reducible apply Below.drew) | (with_reducible apply Below.alloc))) <;> first | omega | (simp <;> omega))
    · clear hq30 hq31
      have hwr : IntKind.i64.wrap 2 = 2 := by decide
      go_region_held3 (fun w' => w'.cell? ⟨w.heap.size, 0, none⟩ = some (.int .i64 n)) (go_keep)
        (first
          | (go_at_call 24
             refine (CintOf_any _ _ _).mono ?_
             rintro e w1 ⟨rfl, hb1⟩
             have HB1 : Hid (Below W.heap.size W w1) := Lib.hid (by refine Below.trans ?_ (hb1.mono ?_) <;> ((repeat (first | (with_reducible exact Below.refl _ _) | (with_reducible apply Below.drew) | (with_reducible apply Below.alloc))) <;> (simp <;> omega)))
             have b01 : w1.cell? ⟨w.heap.size, 0, none⟩ = some (.int .i64 n) := by rw [HB1.out.cell (by exact bl)]; exact b0
             have bl1 : w.heap.size < w1.heap.size := by have := HB1.out.size; omega
             have bn1 : w.heap.size ≠ w1.heap.size := by omega
             have bn1' : w1.heap.size ≠ w.heap.size := by omega
             try (have P1 : Hid (Cells9 w1 W.heap.size 0 .void none) := Lib.hid (by constructor <;> (rw [hb1.cell (by simp <;> omega)]; simp [Ty.kind, Ty.size, Ty.sg, Ty.sc, Ty.len, Ty.num]; done)); have P1F : Hid (Free9 w1 W.heap.size) := Lib.hid (by constructor <;> (rw [hb1.frozen (by simp <;> omega)]; simp; done)); have P1z : W.heap.size < w1.heap.size := (by have := hb1.size; simp at this; omega); obtain ⟨p0, p1, p2, p3, p4, p5, p6, p7, p8⟩ := P1.out; obtain ⟨pf0, pf1, pf2, pf3, pf4, pf5, pf6, pf7, pf8⟩ := P1F.out; simp only [Nat.zero_add, Ty.kind, Ty.size, Ty.sg, Ty.sc, Ty.len, Ty.num] at p0 p1 p2 p3 p4 p5 p6 p7 p8)
             clear hb1
             rw [tyV_int]))
      all_goals
        go_wp2_with fail
        go_meet
        have hA := HB1.out.size
        refine ⟨_, .int 2 (bits .and .i64 n 4 == 0) false, rfl, ?_, rfl, ?_, ?_⟩
        · first | (have hp := P1.out; exact (VarT.putInt _ _ _ hp P1F.out P1z rfl)) | exact ⟨cells9_new _ _ rfl _ _ _ _, free9_new _ _ rfl _ _ _ _ _ _ _ _ _ _, rfl, by simp⟩
        · first | omega | (simp <;> omega)
        · have hC := HB1.out
          ((repeat (first | (with_reducible exact hC) | (with_reducible apply Below.setCell) | (with_reducible apply Below.drew) | (with_reducible apply Below.alloc))) <;> first | omega | (simp <;> omega))
    · clear hq30 hq31
      have hwr : IntKind.i64.wrap 4 = 4 := by decide
      go_region_held3 (fun w' => w'.cell? ⟨w.heap.size, 0, none⟩ = some (.int .i64 n)) (go_keep)
        (first
          | (go_at_call 24
             refine (CintOf_any _ _ _).mono ?_
             rintro e w1 ⟨rfl, hb1⟩
             have HB1 : Hid (Below W.heap.size W w1) := Lib.hid (by refine Below.trans ?_ (hb1.mono ?_) <;> ((repeat (first | (with_reducible exact Below.refl _ _) | (with_reducible apply Below.drew) | (with_reducible apply Below.alloc))) <;> (simp <;> omega)))
             have b01 : w1.cell? ⟨w.heap.size, 0, none⟩ = some (.int .i64 n) := by rw [HB1.out.cell (by exact bl)]; exact b0
             have bl1 : w.heap.size < w1.heap.size := by have := HB1.out.size; omega
             have bn1 : w.heap.size ≠ w1.heap.size := by omega
             have bn1' : w1.heap.size ≠ w.heap.size := by omega
             try (have P1 : Hid (Cells9 w1 W.heap.size 0 .void none) := Lib.hid (by constructor <;> (rw [hb1.cell (by simp <;> omega)]; simp [Ty.kind, Ty.size, Ty.sg, Ty.sc, Ty.len, Ty.num]; done)); have P1F : Hid (Free9 w1 W.heap.size) := Lib.hid (by constructor <;> (rw [hb1.frozen (by simp <;> omega)]; simp; done)); have P1z : W.heap.size < w1.heap.size := (by have := hb1.size; simp at this; omega); obtain ⟨p0, p1, p2, p3, p4, p5, p6, p7, p8⟩ := P1.out; obtain ⟨pf0, pf1, pf2, pf3, pf4, pf5, pf6, pf7, pf8⟩ := P1F.out; simp only [Nat.zero_add, Ty.kind, Ty.size, Ty.sg, Ty.sc, Ty.len, Ty.num] at p0 p1 p2 p3 p4 p5 p6 p7 p8)
             clear hb1
             rw [tyV_int]))
      all_goals
        go_wp2_with fail
        go_meet
        have hA := HB1.out.size
        refine ⟨_, .int 4 (bits .and .i64 n 4 == 0) false, rfl, ?_, rfl, ?_, ?_⟩
        · first | (have hp := P1.out; exact (VarT.putInt _ _ _ hp P1F.out P1z rfl)) | exact ⟨cells9_new _ _ rfl _ _ _ _, free9_new _ _ rfl _ _ _ _ _ _ _ _ _ _, rfl, by simp⟩
        · first | omega | (simp <;> omega)
        · have hC := HB1.out
          ((repeat (first | (with_reducible exact hC) | (with_reducible apply Below.setCell) | (with_reducible apply Below.drew) | (with_reducible apply Below.alloc))) <;> first | omega | (simp <;> omega))
    · clear hq30 hq31
      have hwr : IntKind.i64.wrap 8 = 8 := by decide
      go_region_held3 (fun w' => w'.cell? ⟨w.heap.size, 0, none⟩ = some (.int .i64 n)) (go_keep)
        (first
          | (go_at_call 24
             refine (CintOf_any _ _ _).mono ?_
             rintro e w1 ⟨rfl, hb1⟩
             have HB1 : Hid (Below W.heap.size W w1) := Lib.hid (by refine Below.trans ?_ (hb1.mono ?_) <;> ((repeat (first | (with_reducible exact Below.refl _ _) | (with_reducible apply Below.drew) | (with_reducible apply Below.alloc))) <;> (simp <;> omega)))
             have b01 : w1.cell? ⟨w.heap.size, 0, none⟩ = some (.int .i64 n) := by rw [HB1.out.cell (by exact bl)]; exact b0
             have bl1 : w.heap.size < w1.heap.size := by have := HB1.out.size; omega
             have bn1 : w.heap.size ≠ w1.heap.size := by omega
             have bn1' : w1.heap.size ≠ w.heap.size := by omega
             try (have P1 : Hid (Cells9 w1 W.heap.size 0 .void none) := Lib.hid (by constructor <;> (rw [hb1.cell (by simp <;> omega)]; simp [Ty.kind, Ty.size, Ty.sg, Ty.sc, Ty.len, Ty.num]; done)); have P1F : Hid (Free9 w1 W.heap.size) := Lib.hid (by constructor <;> (rw [hb1.frozen (by simp <;> omega)]; simp; done)); have P1z : W.heap.size < w1.heap.size := (by have := hb1.size; simp at this; omega); obtain ⟨p0, p1, p2, p3, p4, p5, p6, p7, p8⟩ := P1.out; obtain ⟨pf0, pf1, pf2, pf3, pf4, pf5, pf6, pf7, pf8⟩ := P1F.out; simp only [Nat.zero_add, Ty.kind, Ty.size, Ty.sg, Ty.sc, Ty.len, Ty.num] at p0 p1 p2 p3 p4 p5 p6 p7 p8)
             clear hb1
             rw [tyV_int]))
      all_goals
        go_wp2_with fail
        go_meet
        have hA := HB1.out.size
        refine ⟨_, .int 8 (bits .and .i64 n 4 == 0) false, rfl, ?_, rfl, ?_, ?_⟩
        · first | (have hp := P1.out; exact (VarT.putInt _ _ _ hp P1F.out P1z rfl)) | exact ⟨cells9_new _ _ rfl _ _ _ _, free9_new _ _ rfl _ _ _ _ _ _ _ _ _ _, rfl, by simp⟩
        · first | omega | (simp <;> omega)
        · have hC := HB1.out
          ((repeat (first | (with_reducible exact hC) | (with_reducible apply Below.setCell) | (with_reducible apply Below.drew) | (with_reducible apply Below.alloc))) <;> first | omega | (simp <;> omega))
  case rest =>
    obtain ⟨T, t, rfl, hv, hk, hT, hb⟩ := hcut
    obtain ⟨nn, bb, cc, rfl⟩ := int_of_kind hk
    have HT := Lib.hid hT
    have hTl := hv.l
    have hTs : w.heap.size + 1 < T := by have := HSW.out; omega
    have HB := Lib.hid hb
    have HV := Lib.hid hv
    have k0 : wc.cell? ⟨w.heap.size, 0, none⟩ = some (.int .i64 n) := by rw [hb.cell (by exact bl)]; exact HK0.out
    obtain ⟨c0, c1, c2, c3, c4, c5, c6, c7, c8⟩ := hv.c
    obtain ⟨f0, f1, f2, f3, f4, f5, f6, f7, f8⟩ := hv.f
    simp only [Nat.zero_add, Ty.kind, Ty.size, Ty.sg, Ty.sc, Ty.len, Ty.num] at c0 c1 c2 c3 c4 c5 c6 c7 c8
    clear hv hk hT hb b0 hq3 hq30 hq31
    go_upto_if 21 with fail
    go_cut [4] (fun s4 wx => s4 = .pointer (some ⟨T, 0, none⟩) ∧ ∃ c, VarT wx T (.int nn bb c) none ∧ Below W.heap.size W wx)
    case first =>
      go_wp2_with (go_at_call 17
                   refine (secret_int nn bb cc _).mono ?_
                   rintro e w2 ⟨rfl, hb2⟩
                   have HS1 := Lib.hid (HV.out.c.below hb2 hTl)
                   have HS2 := Lib.hid (HV.out.f.below hb2 hTl)
                   have HS3 := Lib.hid (HB.out.trans (hb2.mono HB.out.size))
                   have HS4 := Lib.hid hb2.size
                   obtain ⟨d0, d1, d2, d3, d4, d5, d6, d7, d8⟩ := HS1.out
                   obtain ⟨g0, g1, g2, g3, g4, g5, g6, g7, g8⟩ := HS2.out
                   simp only [Nat.zero_add, Ty.kind, Ty.size, Ty.sg, Ty.sc, Ty.len, Ty.num] at d0 d1 d2 d3 d4 d5 d6 d7 d8
                   have hl2 : T < w2.heap.size := by have := hb2.size; omega
                   clear hb2
                   rw [tyV_int])
      all_goals
        go_meet
        refine ⟨rfl, ?_⟩
        first
          | (have hs1 := HS1.out
             have hs2 := HS2.out
             have hbw := HS3.out
             have hTT := HT.out
             refine ⟨true, VarT.putInt _ _ _ hs1 hs2 hl2 rfl, ?_⟩
             ((repeat (first | (with_reducible exact hbw) | (with_reducible apply Below.setCell))) <;> first | omega | (simp <;> omega)))
          | exact ⟨cc, HV.out, HB.out⟩
    case rest =>
      obtain ⟨rfl, cx, hv, hb⟩ := hcut
      obtain ⟨wo, rfl⟩ : ∃ wo : World, wo = wc := ⟨_, rfl⟩
      have hv' := hv
      clear c0 c1 c2 c3 c4 c5 c6 c7 c8 f0 f1 f2 f3 f4 f5 f6 f7 f8 k0
      have HVV := Lib.hid hv'
      have HBL := Lib.hid hb
      have k1 : wo.cell? ⟨w.heap.size, 1, none⟩ = some (.slice a len cap) := by rw [hb.cell (by exact bl)]; exact HK1.out
      have hTl2 := hv.l
      clear hv hv' hb hTl HV HB HT HK0
      by_cases h6 : 6 < len
      · obtain ⟨c0, c1, c2, c3, c4, c5, c6, c7, c8⟩ := HVV.out.c
        simp only [Nat.zero_add, Ty.kind, Ty.size, Ty.sg, Ty.sc, Ty.len, Ty.num] at c0 c1 c2 c3 c4 c5 c6 c7 c8
        obtain ⟨r0, r1, r2, r3, r4, r5, r6, r7, r8⟩ := HVR.out.below HBL.out (by have := HSW.out; omega)
        obtain ⟨g0, g1, g2, g3, g4, g5, g6, g7, g8⟩ := HFR.out.below HBL.out (by have := HSW.out; omega)
        simp only [Nat.zero_add, Ty.kind, Ty.size, Ty.sg, Ty.sc, Ty.len, Ty.num] at r0 r1 r2 r3 r4 r5 r6 r7 r8
        have hRl : w.heap.size + 1 < wo.heap.size := by have := HVV.out.l; omega
        have hRT : w.heap.size + 1 ≠ T := by omega
        go_wp2_with fail
        have hE := HVV.out.e
        have hbw := HB0.out.trans (HBL.out.mono (by have := HSW.out; omega))
        refine bodyPost_ret (v := .tuple #[tyV (.int nn bb cx) none, .bool false]) ?_ rfl ⟨(.int nn bb cx), none, false, rfl, ?_, ?_⟩
        · unfold tyV; simp [results, Try.results14, go_sem, r0, r1, r2, r3, r4, r5, r6, r7, r8, Ty.kind, Ty.size, Ty.sg, Ty.sc, Ty.len, Ty.num]
        · simp only [World.size_setCell]
          refine ElAt.mono (lo := T + 1) (by omega) (Nat.le_refl _) ?_
          ((repeat (first | (with_reducible exact hE) | (with_reducible apply ElAt.set_lo))) <;> first | omega | (simp <;> omega))
        · ((repeat (first | (with_reducible exact hbw) | (with_reducible apply Below.setCell) | (with_reducible apply Below.alloc))) <;> first | omega | (simp <;> omega))
      · go_wp2_with fail
        go_loopw [32, 5] (fun s32 s5 wr => ∃ (k : Nat) (m : Int) (t : Ty) (el : Option Addr), s32 = .int .i64 k ∧ k ≤ len ∧ s5 = .int .i64 m ∧ 0 ≤ m ∧ m ≤ k ∧ VarT wr T t el ∧ Below W.heap.size W wr) (fun s32 _ _ => len - (intOf s32).toNat)
        case atStart => exact ⟨0, 0, _, _, rfl, by omega, rfl, by omega, by omega, HVV.out, HBL.out⟩
        case round =>
          obtain ⟨k, m, t, el, rfl, hk, rfl, hm0, hm1, hv, hbl⟩ := hrel
          have HVV := Lib.hid hv
          have HBL := Lib.hid hbl
          have hTr := hv.l
          have hWT : W.heap.size ≤ T := by have := HSW.out; omega
          clear hv hbl
          by_cases hlt : k < len
          · obtain ⟨bs, off, rfl, hst⟩ : ∃ b off : Nat, a = some ⟨b, off, none⟩ ∧ ∀ i, i < len → ∃ p q : Int, w.cell? ⟨b, off + i * 2, none⟩ = some (.int .i64 p) ∧ w.cell? ⟨b, off + i * 2 + 1, none⟩ = some (.int .i64 q) := by
              rcases HST.out with h | h
              · omega
              · exact h
            obtain ⟨p, q, hp0, hq0⟩ := hst k hlt
            have hbs := HBL0.out (by omega) _ rfl
            simp only at hbs
            have hp : wr.cell? ⟨bs, off + k * 2, none⟩ = some (.int .i64 p) := by rw [HBL.out.cell (by have := HSW.out; simp; omega), HB0.out.cell (by exact hbs)]; exact hp0
            have hq : wr.cell? ⟨bs, off + k * 2 + 1, none⟩ = some (.int .i64 q) := by rw [HBL.out.cell (by have := HSW.out; simp; omega), HB0.out.cell (by exact hbs)]; exact hq0
            have hbr : bs < wr.heap.size := by have := HBL.out.size; have := HSW.out; omega
            obtain ⟨c0, c1, c2, c3, c4, c5, c6, c7, c8⟩ := HVV.out.c
            obtain ⟨f0, f1, f2, f3, f4, f5, f6, f7, f8⟩ := HVV.out.f
            simp only [Nat.zero_add] at c0 c1 c2 c3 c4 c5 c6 c7 c8
            obtain ⟨qr, hqr, hqr0, hqr1⟩ : ∃ r, q.tmod 40 = r ∧ -40 < r ∧ r < 40 := ⟨_, rfl, Int.lt_tmod_of_pos q (by omega), Int.tmod_lt_of_pos q (by omega)⟩
            obtain ⟨pr, hpr, hpr0, hpr1⟩ : ∃ r, p.tmod 3 = r ∧ -3 < r ∧ r < 3 := ⟨_, rfl, Int.lt_tmod_of_pos p (by omega), Int.tmod_lt_of_pos p (by omega)⟩
            clear hst hp0 hq0 hbs
            rcases (show pr = 0 ∨ pr = 1 ∨ pr = -2 ∨ pr = 2 ∨ pr = -1 by omega) with rfl | rfl | rfl | rfl | rfl
            · clear hpr0 hpr1
              go_wp2_with (first
                | (go_at_call 28
                   refine (ptrTo_any t el _ (T + 1) (by simp; omega) ((HVV.out.e.alloc (Nat.le_refl _) _).mono (Nat.le_refl _) (by simp))).mono ?_
                   rintro e w2 ⟨el2, rfl, he2, hb2⟩
                   have HE2 := Lib.hid he2
                   have HB2 : Hid (Below W.heap.size W w2) := Lib.hid ((HBL.out.alloc HBL.out.size _).trans (hb2.mono (by have := HBL.out.size; simp; omega)))
                   have HC2 := Lib.hid ((HVV.out.c.alloc hTr _).below hb2 (by simp; omega))
                   have HF2 := Lib.hid ((HVV.out.f.below ((Below.refl _ _).alloc (Nat.le_refl _) _) hTr).below hb2 (by simp; omega))
                   obtain ⟨d0, d1, d2, d3, d4, d5, d6, d7, d8⟩ := HC2.out
                   obtain ⟨g0, g1, g2, g3, g4, g5, g6, g7, g8⟩ := HF2.out
                   simp only [Nat.zero_add] at d0 d1 d2 d3 d4 d5 d6 d7 d8
                   have hl2 : T < w2.heap.size := by have := hb2.size; simp at this; omega
                   clear he2 hb2
                   rw [tyV_ptr])
                | (go_at_call 36
                   refine (arrayOf_any t _ el _ (T + 1) (by simp; omega) ((HVV.out.e.alloc (Nat.le_refl _) _).mono (Nat.le_refl _) (by simp))).mono ?_
                   rintro e w2 ⟨el2, rfl, he2, hb2⟩
                   have HE2 := Lib.hid he2
                   have HB2 : Hid (Below W.heap.size W w2) := Lib.hid ((HBL.out.alloc HBL.out.size _).trans (hb2.mono (by have := HBL.out.size; simp; omega)))
                   have HC2 := Lib.hid ((HVV.out.c.alloc hTr _).below hb2 (by simp; omega))
                   have HF2 := Lib.hid ((HVV.out.f.below ((Below.refl _ _).alloc (Nat.le_refl _) _) hTr).below hb2 (by simp; omega))
                   obtain ⟨d0, d1, d2, d3, d4, d5, d6, d7, d8⟩ := HC2.out
                   obtain ⟨g0, g1, g2, g3, g4, g5, g6, g7, g8⟩ := HF2.out
                   simp only [Nat.zero_add] at d0 d1 d2 d3 d4 d5 d6 d7 d8
                   have hl2 : T < w2.heap.size := by have := hb2.size; simp at this; omega
                   clear he2 hb2
                   rw [tyV_arr]))
              all_goals
                go_roundw
                case rel =>
                  have hc2 := HC2.out
                  have hf2 := HF2.out
                  have hE2 := HE2.out
                  have hbw := HB2.out
                  first
                    | (refine ⟨k + 1, m, .ptr t, el2, by go_num, by omega, rfl, by omega, by omega, (by with_reducible exact VarT.putPtr t el2 hc2 hf2 hl2 hE2), ?_⟩
                       ((repeat (first | (with_reducible exact hbw) | (with_reducible apply Below.setCell) | (with_reducible apply Below.alloc))) <;> first | omega | (simp <;> omega)))
                case measure => simp [intOf]; omega
            · clear hpr0 hpr1
              go_wp2_with (first
                | (go_at_call 28
                   refine (ptrTo_any t el _ (T + 1) (by simp; omega) ((HVV.out.e.alloc (Nat.le_refl _) _).mono (Nat.le_refl _) (by simp))).mono ?_
                   rintro e w2 ⟨el2, rfl, he2, hb2⟩
                   have HE2 := Lib.hid he2
                   have HB2 : Hid (Below W.heap.size W w2) := Lib.hid ((HBL.out.alloc HBL.out.size _).trans (hb2.mono (by have := HBL.out.size; simp; omega)))
                   have HC2 := Lib.hid ((HVV.out.c.alloc hTr _).below hb2 (by simp; omega))
                   have HF2 := Lib.hid ((HVV.out.f.below ((Below.refl _ _).alloc (Nat.le_refl _) _) hTr).below hb2 (by simp; omega))
                   obtain ⟨d0, d1, d2, d3, d4, d5, d6, d7, d8⟩ := HC2.out
                   obtain ⟨g0, g1, g2, g3, g4, g5, g6, g7, g8⟩ := HF2.out
                   simp only [Nat.zero_add] at d0 d1 d2 d3 d4 d5 d6 d7 d8
                   have hl2 : T < w2.heap.size := by have := hb2.size; simp at this; omega
                   clear he2 hb2
                   rw [tyV_ptr])
                | (go_at_call 36
                   refine (arrayOf_any t _ el _ (T + 1) (by simp; omega) ((HVV.out.e.alloc (Nat.le_refl _) _).mono (Nat.le_refl _) (by simp))).mono ?_
                   rintro e w2 ⟨el2, rfl, he2, hb2⟩
                   have HE2 := Lib.hid he2
                   have HB2 : Hid (Below W.heap.size W w2) := Lib.hid ((HBL.out.alloc HBL.out.size _).trans (hb2.mono (by have := HBL.out.size; simp; omega)))
                   have HC2 := Lib.hid ((HVV.out.c.alloc hTr _).below hb2 (by simp; omega))
                   have HF2 := Lib.hid ((HVV.out.f.below ((Below.refl _ _).alloc (Nat.le_refl _) _) hTr).below hb2 (by simp; omega))
                   obtain ⟨d0, d1, d2, d3, d4, d5, d6, d7, d8⟩ := HC2.out
                   obtain ⟨g0, g1, g2, g3, g4, g5, g6, g7, g8⟩ := HF2.out
                   simp only [Nat.zero_add] at d0 d1 d2 d3 d4 d5 d6 d7 d8
                   have hl2 : T < w2.heap.size := by have := hb2.size; simp at this; omega
                   clear he2 hb2
                   rw [tyV_arr]))
              all_goals
                go_roundw
                case rel =>
                  have hc2 := HC2.out
                  have hf2 := HF2.out
                  have hE2 := HE2.out
                  have hbw := HB2.out
                  first
                    | (refine ⟨k + 1, m + 1, .ptr t, el2, by go_num, by omega, rfl, by omega, by omega, (by with_reducible exact VarT.putPtr t el2 hc2 hf2 hl2 hE2), ?_⟩
                       ((repeat (first | (with_reducible exact hbw) | (with_reducible apply Below.setCell) | (with_reducible apply Below.alloc))) <;> first | omega | (simp <;> omega)))
                    | (refine ⟨k + 1, m + 1, .arr t _, el2, by go_num, by omega, rfl, by omega, by omega, (by with_reducible exact VarT.putArr t _ el2 hc2 hf2 hl2 hE2), ?_⟩
                       ((repeat (first | (with_reducible exact hbw) | (with_reducible apply Below.setCell) | (with_reducible apply Below.alloc))) <;> first | omega | (simp <;> omega)))
                case measure => simp [intOf]; omega
            · clear hpr0 hpr1
              go_wp2_with (first
                | (go_at_call 28
                   refine (ptrTo_any t el _ (T + 1) (by simp; omega) ((HVV.out.e.alloc (Nat.le_refl _) _).mono (Nat.le_refl _) (by simp))).mono ?_
                   rintro e w2 ⟨el2, rfl, he2, hb2⟩
                   have HE2 := Lib.hid he2
                   have HB2 : Hid (Below W.heap.size W w2) := Lib.hid ((HBL.out.alloc HBL.out.size _).trans (hb2.mono (by have := HBL.out.size; simp; omega)))
                   have HC2 := Lib.hid ((HVV.out.c.alloc hTr _).below hb2 (by simp; omega))
                   have HF2 := Lib.hid ((HVV.out.f.below ((Below.refl _ _).alloc (Nat.le_refl _) _) hTr).below hb2 (by simp; omega))
                   obtain ⟨d0, d1, d2, d3, d4, d5, d6, d7, d8⟩ := HC2.out
                   obtain ⟨g0, g1, g2, g3, g4, g5, g6, g7, g8⟩ := HF2.out
                   simp only [Nat.zero_add] at d0 d1 d2 d3 d4 d5 d6 d7 d8
                   have hl2 : T < w2.heap.size := by have := hb2.size; simp at this; omega
                   clear he2 hb2
                   rw [tyV_ptr])
                | (go_at_call 36
                   refine (arrayOf_any t _ el _ (T + 1) (by simp; omega) ((HVV.out.e.alloc (Nat.le_refl _) _).mono (Nat.le_refl _) (by simp))).mono ?_
                   rintro e w2 ⟨el2, rfl, he2, hb2⟩
                   have HE2 := Lib.hid he2
                   have HB2 : Hid (Below W.heap.size W w2) := Lib.hid ((HBL.out.alloc HBL.out.size _).trans (hb2.mono (by have := HBL.out.size; simp; omega)))
                   have HC2 := Lib.hid ((HVV.out.c.alloc hTr _).below hb2 (by simp; omega))
                   have HF2 := Lib.hid ((HVV.out.f.below ((Below.refl _ _).alloc (Nat.le_refl _) _) hTr).below hb2 (by simp; omega))
                   obtain ⟨d0, d1, d2, d3, d4, d5, d6, d7, d8⟩ := HC2.out
                   obtain ⟨g0, g1, g2, g3, g4, g5, g6, g7, g8⟩ := HF2.out
                   simp only [Nat.zero_add] at d0 d1 d2 d3 d4 d5 d6 d7 d8
                   have hl2 : T < w2.heap.size := by have := hb2.size; simp at this; omega
                   clear he2 hb2
                   rw [tyV_arr]))
              all_goals
                go_roundw
                case rel =>
                  have hc2 := HC2.out
                  have hf2 := HF2.out
                  have hE2 := HE2.out
                  have hbw := HB2.out
                  first
                    | (refine ⟨k + 1, m + 1, .ptr t, el2, by go_num, by omega, rfl, by omega, by omega, (by with_reducible exact VarT.putPtr t el2 hc2 hf2 hl2 hE2), ?_⟩
                       ((repeat (first | (with_reducible exact hbw) | (with_reducible apply Below.setCell) | (with_reducible apply Below.alloc))) <;> first | omega | (simp <;> omega)))
                    | (refine ⟨k + 1, m + 1, .arr t _, el2, by go_num, by omega, rfl, by omega, by omega, (by with_reducible exact VarT.putArr t _ el2 hc2 hf2 hl2 hE2), ?_⟩
                       ((repeat (first | (with_reducible exact hbw) | (with_reducible apply Below.setCell) | (with_reducible apply Below.alloc))) <;> first | omega | (simp <;> omega)))
                case measure => simp [intOf]; omega
            · clear hpr0 hpr1
              go_wp2_with (first
                | (go_at_call 28
                   refine (ptrTo_any t el _ (T + 1) (by simp; omega) ((HVV.out.e.alloc (Nat.le_refl _) _).mono (Nat.le_refl _) (by simp))).mono ?_
                   rintro e w2 ⟨el2, rfl, he2, hb2⟩
                   have HE2 := Lib.hid he2
                   have HB2 : Hid (Below W.heap.size W w2) := Lib.hid ((HBL.out.alloc HBL.out.size _).trans (hb2.mono (by have := HBL.out.size; simp; omega)))
                   have HC2 := Lib.hid ((HVV.out.c.alloc hTr _).below hb2 (by simp; omega))
                   have HF2 := Lib.hid ((HVV.out.f.below ((Below.refl _ _).alloc (Nat.le_refl _) _) hTr).below hb2 (by simp; omega))
                   obtain ⟨d0, d1, d2, d3, d4, d5, d6, d7, d8⟩ := HC2.out
                   obtain ⟨g0, g1, g2, g3, g4, g5, g6, g7, g8⟩ := HF2.out
                   simp only [Nat.zero_add] at d0 d1 d2 d3 d4 d5 d6 d7 d8
                   have hl2 : T < w2.heap.size := by have := hb2.size; simp at this; omega
                   clear he2 hb2
                   rw [tyV_ptr])
                | (go_at_call 36
                   refine (arrayOf_any t _ el _ (T + 1) (by simp; omega) ((HVV.out.e.alloc (Nat.le_refl _) _).mono (Nat.le_refl _) (by simp))).mono ?_
                   rintro e w2 ⟨el2, rfl, he2, hb2⟩
                   have HE2 := Lib.hid he2
                   have HB2 : Hid (Below W.heap.size W w2) := Lib.hid ((HBL.out.alloc HBL.out.size _).trans (hb2.mono (by have := HBL.out.size; simp; omega)))
                   have HC2 := Lib.hid ((HVV.out.c.alloc hTr _).below hb2 (by simp; omega))
                   have HF2 := Lib.hid ((HVV.out.f.below ((Below.refl _ _).alloc (Nat.le_refl _) _) hTr).below hb2 (by simp; omega))
                   obtain ⟨d0, d1, d2, d3, d4, d5, d6, d7, d8⟩ := HC2.out
                   obtain ⟨g0, g1, g2, g3, g4, g5, g6, g7, g8⟩ := HF2.out
                   simp only [Nat.zero_add] at d0 d1 d2 d3 d4 d5 d6 d7 d8
                   have hl2 : T < w2.heap.size := by have := hb2.size; simp at this; omega
                   clear he2 hb2
                   rw [tyV_arr]))
              all_goals
                go_roundw
                case rel =>
                  have hc2 := HVV.out.c
                  have hf2 := HVV.out.f
                  have hbw := HBL.out
                  refine ⟨k + 1, m, .st _, none, by go_num, by omega, rfl, by omega, by omega, (by with_reducible exact VarT.alloc (VarT.putSt _ hc2 hf2 hTr (elAt_st _ _ _ _)) _), ?_⟩
                  ((repeat (first | (with_reducible exact hbw) | (with_reducible apply Below.setCell) | (with_reducible apply Below.alloc))) <;> first | omega | (simp <;> omega))
                case measure => simp [intOf]; omega
            · clear hpr0 hpr1
              go_wp2_with (first
                | (go_at_call 28
                   refine (ptrTo_any t el _ (T + 1) (by simp; omega) ((HVV.out.e.alloc (Nat.le_refl _) _).mono (Nat.le_refl _) (by simp))).mono ?_
                   rintro e w2 ⟨el2, rfl, he2, hb2⟩
                   have HE2 := Lib.hid he2
                   have HB2 : Hid (Below W.heap.size W w2) := Lib.hid ((HBL.out.alloc HBL.out.size _).trans (hb2.mono (by have := HBL.out.size; simp; omega)))
                   have HC2 := Lib.hid ((HVV.out.c.alloc hTr _).below hb2 (by simp; omega))
                   have HF2 := Lib.hid ((HVV.out.f.below ((Below.refl _ _).alloc (Nat.le_refl _) _) hTr).below hb2 (by simp; omega))
                   obtain ⟨d0, d1, d2, d3, d4, d5, d6, d7, d8⟩ := HC2.out
                   obtain ⟨g0, g1, g2, g3, g4, g5, g6, g7, g8⟩ := HF2.out
                   simp only [Nat.zero_add] at d0 d1 d2 d3 d4 d5 d6 d7 d8
                   have hl2 : T < w2.heap.size := by have := hb2.size; simp at this; omega
                   clear he2 hb2
                   rw [tyV_ptr])
                | (go_at_call 36
                   refine (arrayOf_any t _ el _ (T + 1) (by simp; omega) ((HVV.out.e.alloc (Nat.le_refl _) _).mono (Nat.le_refl _) (by simp))).mono ?_
                   rintro e w2 ⟨el2, rfl, he2, hb2⟩
                   have HE2 := Lib.hid he2
                   have HB2 : Hid (Below W.heap.size W w2) := Lib.hid ((HBL.out.alloc HBL.out.size _).trans (hb2.mono (by have := HBL.out.size; simp; omega)))
                   have HC2 := Lib.hid ((HVV.out.c.alloc hTr _).below hb2 (by simp; omega))
                   have HF2 := Lib.hid ((HVV.out.f.below ((Below.refl _ _).alloc (Nat.le_refl _) _) hTr).below hb2 (by simp; omega))
                   obtain ⟨d0, d1, d2, d3, d4, d5, d6, d7, d8⟩ := HC2.out
                   obtain ⟨g0, g1, g2, g3, g4, g5, g6, g7, g8⟩ := HF2.out
                   simp only [Nat.zero_add] at d0 d1 d2 d3 d4 d5 d6 d7 d8
                   have hl2 : T < w2.heap.size := by have := hb2.size; simp at this; omega
                   clear he2 hb2
                   rw [tyV_arr]))
              all_goals
                go_roundw
                case rel =>
                  have hc2 := HVV.out.c
                  have hf2 := HVV.out.f
                  have hbw := HBL.out
                  refine ⟨k + 1, m, .st _, none, by go_num, by omega, rfl, by omega, by omega, (by with_reducible exact VarT.alloc (VarT.putSt _ hc2 hf2 hTr (elAt_st _ _ _ _)) _), ?_⟩
                  ((repeat (first | (with_reducible exact hbw) | (with_reducible apply Below.setCell) | (with_reducible apply Below.alloc))) <;> first | omega | (simp <;> omega))
                case measure => simp [intOf]; omega
          · obtain rfl : k = len := by omega
            obtain ⟨c0, c1, c2, c3, c4, c5, c6, c7, c8⟩ := HVV.out.c
            simp only [Nat.zero_add] at c0 c1 c2 c3 c4 c5 c6 c7 c8
            obtain ⟨r0, r1, r2, r3, r4, r5, r6, r7, r8⟩ := HVR.out.below HBL.out (by have := HSW.out; omega)
            obtain ⟨g0, g1, g2, g3, g4, g5, g6, g7, g8⟩ := HFR.out.below HBL.out (by have := HSW.out; omega)
            simp only [Nat.zero_add, Ty.kind, Ty.size, Ty.sg, Ty.sc, Ty.len, Ty.num] at r0 r1 r2 r3 r4 r5 r6 r7 r8
            have hRl : w.heap.size + 1 < wr.heap.size := by have := HVV.out.l; omega
            have hRT : w.heap.size + 1 ≠ T := by omega
            go_wp2_with fail
            have hE := HVV.out.e
            have hbw := HB0.out.trans (HBL.out.mono (by have := HSW.out; omega))
            refine bodyPost_ret (v := .tuple #[tyV t el, .bool true]) ?_ rfl ⟨t, el, true, rfl, ?_, ?_⟩
            · unfold tyV; simp [results, Try.results14, go_sem, r0, r1, r2, r3, r4, r5, r6, r7, r8]
            · simp only [World.size_setCell]
              refine ElAt.mono (lo := T + 1) (by omega) (Nat.le_refl _) ?_
              ((repeat (first | (with_reducible exact hE) | (with_reducible apply ElAt.set_lo))) <;> first | omega | (simp <;> omega))
            · ((repeat (first | (with_reducible exact hbw) | (with_reducible apply Below.setCell) | (with_reducible apply Below.alloc))) <;> first | omega | (simp <;> omega))
end Go.Proofs.Ytdkhanjfncbfnaa
