import Derived.Test.YtoajcggiccfaiaaDoorRows
import Derived.WalkKit
import Derived.ProofKit
import Derived.Outline
import Derived.WalkLawsBesides
import Derived.WalkSpells
import Derived.Lib.Hide
import Derived.Lib.Strings
import Derived.Below
import Derived.RegionTactic
import Derived.Deep.RegionHeld3
import Derived.Deep.DeepCutAuto
import Derived.BigQuiet
import Derived.Deep.QuietTactic
import Derived.StillTactics
import Derived.Laws.Pointers
import Derived.KernelRfl
namespace Go.Proofs.YtoajcggiccfaiaaDoor
open Go Go.RowKit

/-- The types that the statements make. -/
inductive Ty where
  | void
  | int (n : Int) (sg sc : Bool)
  | ptr (t : Ty)
  | arr (t : Ty) (n : Int)
  | st (k : Int)

namespace Ty
def kind : Ty → Int | void => 0 | int _ _ _ => 1 | ptr _ => 2 | arr _ _ => 3 | st _ => 4
def size : Ty → Int | int n _ _ => n | ptr _ => 8 | _ => 0
def sg : Ty → Bool | int _ b _ => b | _ => false
def sc : Ty → Bool | int _ _ b => b | _ => false
def len : Ty → Int | arr _ n => n | _ => 0
def num : Ty → Int | st k => k | _ => 0
end Ty

def tyV (t : Ty) (el : Option Addr) : Value := .agg #[.int .i64 t.kind, .int .i64 t.size, .bool t.sg, .bool t.sc, .pointer el, .int .i64 t.len, .int .i64 t.num, .slice none 0 0, .pointer none]

/-- The nine cells of block b from offset o on. -/
structure Cells9 (w : World) (b o : Nat) (t : Ty) (el : Option Addr) : Prop where
  c0 : w.cell? ⟨b, o, none⟩ = some (.int .i64 t.kind)
  c1 : w.cell? ⟨b, o + 1, none⟩ = some (.int .i64 t.size)
  c2 : w.cell? ⟨b, o + 2, none⟩ = some (.bool t.sg)
  c3 : w.cell? ⟨b, o + 3, none⟩ = some (.bool t.sc)
  c4 : w.cell? ⟨b, o + 4, none⟩ = some (.pointer el)
  c5 : w.cell? ⟨b, o + 5, none⟩ = some (.int .i64 t.len)
  c6 : w.cell? ⟨b, o + 6, none⟩ = some (.int .i64 t.num)
  c7 : w.cell? ⟨b, o + 7, none⟩ = some (.slice none 0 0)
  c8 : w.cell? ⟨b, o + 8, none⟩ = some (.pointer none)

/-- What lies behind a type's pointer, all of it in the blocks from lo up to hi. -/
def ElAt (w : World) (lo hi : Nat) : Ty → Option Addr → Prop
  | .ptr t, el => ∃ b e, el = some ⟨b, 0, none⟩ ∧ lo ≤ b ∧ b < hi ∧ Cells9 w b 0 t e ∧ ElAt w lo hi t e
  | .arr t _, el => ∃ b e, el = some ⟨b, 0, none⟩ ∧ lo ≤ b ∧ b < hi ∧ Cells9 w b 0 t e ∧ ElAt w lo hi t e
  | _, el => el = none

theorem Cells9.below {w w' : World} {b o : Nat} {t : Ty} {el : Option Addr} {lim : Nat} (h : Cells9 w b o t el) (hb : Below lim w w') (hl : b < lim) : Cells9 w' b o t el := by
  obtain ⟨h0, h1, h2, h3, h4, h5, h6, h7, h8⟩ := h
  constructor <;> (rw [hb.cell (by exact hl)]; assumption)

theorem Cells9.setCell {w : World} {b o : Nat} {t : Ty} {el : Option Addr} {p : Addr} (h : Cells9 w b o t el) (hb : p.block ≠ b) (u : Value) : Cells9 (w.setCell p u) b o t el := by
  have h' : ∀ o', (w.setCell p u).cell? ⟨b, o', none⟩ = w.cell? ⟨b, o', none⟩ := fun o' => World.cell?_of_block (Below.heap_setCell w p u b (Ne.symm hb))
  obtain ⟨h0, h1, h2, h3, h4, h5, h6, h7, h8⟩ := h
  constructor <;> (rw [h']; assumption)

theorem ElAt.below {w w' : World} {lo hi lim : Nat} (hb : Below lim w w') (hl : hi ≤ lim) : ∀ {t : Ty} {el : Option Addr}, ElAt w lo hi t el → ElAt w' lo hi t el := by
  intro t
  induction t with
  | void => exact fun h => h
  | int n a b => exact fun h => h
  | st k => exact fun h => h
  | ptr t ih =>
    rintro el ⟨b, e, h1, h2, h3, h4, h5⟩
    exact ⟨b, e, h1, h2, h3, h4.below hb (by omega), ih h5⟩
  | arr t n ih =>
    rintro el ⟨b, e, h1, h2, h3, h4, h5⟩
    exact ⟨b, e, h1, h2, h3, h4.below hb (by omega), ih h5⟩

theorem ElAt.setCell {w : World} {lo hi : Nat} {p : Addr} (hp : p.block < lo ∨ hi ≤ p.block) (u : Value) : ∀ {t : Ty} {el : Option Addr}, ElAt w lo hi t el → ElAt (w.setCell p u) lo hi t el := by
  intro t
  induction t with
  | void => exact fun h => h
  | int n a b => exact fun h => h
  | st k => exact fun h => h
  | ptr t ih =>
    rintro el ⟨b, e, h1, h2, h3, h4, h5⟩
    exact ⟨b, e, h1, h2, h3, h4.setCell (by omega) u, ih h5⟩
  | arr t n ih =>
    rintro el ⟨b, e, h1, h2, h3, h4, h5⟩
    exact ⟨b, e, h1, h2, h3, h4.setCell (by omega) u, ih h5⟩

theorem ElAt.mono {w : World} {lo hi lo' hi' : Nat} (hl : lo' ≤ lo) (hh : hi ≤ hi') : ∀ {t : Ty} {el : Option Addr}, ElAt w lo hi t el → ElAt w lo' hi' t el := by
  intro t
  induction t with
  | void => exact fun h => h
  | int n a b => exact fun h => h
  | st k => exact fun h => h
  | ptr t ih =>
    rintro el ⟨b, e, h1, h2, h3, h4, h5⟩
    exact ⟨b, e, h1, by omega, by omega, h4, ih h5⟩
  | arr t n ih =>
    rintro el ⟨b, e, h1, h2, h3, h4, h5⟩
    exact ⟨b, e, h1, by omega, by omega, h4, ih h5⟩

theorem ElAt.set_lo {w : World} {lo hi : Nat} {p : Addr} {t : Ty} {el : Option Addr} (h : ElAt w lo hi t el) (hp : p.block < lo) (u : Value) : ElAt (w.setCell p u) lo hi t el := ElAt.setCell (Or.inl hp) u h
theorem ElAt.set_hi {w : World} {lo hi : Nat} {p : Addr} {t : Ty} {el : Option Addr} (h : ElAt w lo hi t el) (hp : hi ≤ p.block) (u : Value) : ElAt (w.setCell p u) lo hi t el := ElAt.setCell (Or.inr hp) u h

theorem cells9_alloc (w : World) (t : Ty) (el : Option Addr) (ty : TypeId) : Cells9 (w.alloc (.cells #[.int .i64 t.kind, .int .i64 t.size, .bool t.sg, .bool t.sc, .pointer el, .int .i64 t.len, .int .i64 t.num, .slice none 0 0, .pointer none] ty)) w.heap.size 0 t el := by
  constructor <;> simp

theorem cells9_at (w : World) (b : Nat) (h : w.heap.size = b) (t : Ty) (el : Option Addr) (ty : TypeId) : Cells9 (w.alloc (.cells #[.int .i64 t.kind, .int .i64 t.size, .bool t.sg, .bool t.sc, .pointer el, .int .i64 t.len, .int .i64 t.num, .slice none 0 0, .pointer none] ty)) b 0 t el := by
  subst h; exact cells9_alloc _ _ _ _
theorem ElAt.alloc {w : World} {lo hi : Nat} {t : Ty} {el : Option Addr} (h : ElAt w lo hi t el) (hh : hi ≤ w.heap.size) (o : Obj) : ElAt (w.alloc o) lo hi t el :=
  h.below ((Below.refl _ _).alloc (Nat.le_refl _) o) hh
theorem Cells9.alloc {w : World} {b o : Nat} {t : Ty} {el : Option Addr} (h : Cells9 w b o t el) (hh : b < w.heap.size) (x : Obj) : Cells9 (w.alloc x) b o t el :=
  h.below ((Below.refl _ _).alloc (Nat.le_refl _) x) hh
theorem tyV_ptr (t : Ty) (el : Option Addr) : tyV (.ptr t) el = .agg #[.int .i64 2, .int .i64 8, .bool false, .bool false, .pointer el, .int .i64 0, .int .i64 0, .slice none 0 0, .pointer none] := rfl
theorem tyV_arr (t : Ty) (n : Int) (el : Option Addr) : tyV (.arr t n) el = .agg #[.int .i64 3, .int .i64 0, .bool false, .bool false, .pointer el, .int .i64 n, .int .i64 0, .slice none 0 0, .pointer none] := rfl

/-- None of the nine cells of block b is frozen. -/
structure Free9 (w : World) (b : Nat) : Prop where
  f0 : w.frozen? ⟨b, 0, none⟩ = false
  f1 : w.frozen? ⟨b, 1, none⟩ = false
  f2 : w.frozen? ⟨b, 2, none⟩ = false
  f3 : w.frozen? ⟨b, 3, none⟩ = false
  f4 : w.frozen? ⟨b, 4, none⟩ = false
  f5 : w.frozen? ⟨b, 5, none⟩ = false
  f6 : w.frozen? ⟨b, 6, none⟩ = false
  f7 : w.frozen? ⟨b, 7, none⟩ = false
  f8 : w.frozen? ⟨b, 8, none⟩ = false

theorem Free9.below {w w' : World} {b : Nat} {lim : Nat} (h : Free9 w b) (hb : Below lim w w') (hl : b < lim) : Free9 w' b := by
  obtain ⟨h0, h1, h2, h3, h4, h5, h6, h7, h8⟩ := h
  constructor <;> (rw [hb.frozen (by exact hl)]; assumption)

theorem free9_alloc (w : World) (c0 c1 c2 c3 c4 c5 c6 c7 c8 : Value) (ty : TypeId) : Free9 (w.alloc (.cells #[c0, c1, c2, c3, c4, c5, c6, c7, c8] ty)) w.heap.size := by
  constructor <;> simp

theorem cells9_void (w : World) (ty : TypeId) : Cells9 (w.alloc (.cells #[.int .i64 0, .int .i64 0, .bool false, .bool false, .pointer none, .int .i64 0, .int .i64 0, .slice none 0 0, .pointer none] ty)) w.heap.size 0 .void none := by
  constructor <;> simp [Ty.kind, Ty.size, Ty.sg, Ty.sc, Ty.len, Ty.num]

/-- A box and a result's place, made one behind the other, and what became of the world since. -/
structure Box2 (w w1 : World) (t : Ty) (el : Option Addr) : Prop where
  a : Cells9 w1 w.heap.size 0 t el
  b : Free9 w1 w.heap.size
  c : Cells9 w1 (w.heap.size + 1) 0 .void none
  d : Free9 w1 (w.heap.size + 1)
  z : w.heap.size + 1 < w1.heap.size

theorem box2 {w w1 : World} {t : Ty} {el : Option Addr} {ty ty' : TypeId} (hb : Below ((w.alloc (.cells #[.int .i64 t.kind, .int .i64 t.size, .bool t.sg, .bool t.sc, .pointer el, .int .i64 t.len, .int .i64 t.num, .slice none 0 0, .pointer none] ty)).alloc (.cells #[.int .i64 0, .int .i64 0, .bool false, .bool false, .pointer none, .int .i64 0, .int .i64 0, .slice none 0 0, .pointer none] ty')).heap.size ((w.alloc (.cells #[.int .i64 t.kind, .int .i64 t.size, .bool t.sg, .bool t.sc, .pointer el, .int .i64 t.len, .int .i64 t.num, .slice none 0 0, .pointer none] ty)).alloc (.cells #[.int .i64 0, .int .i64 0, .bool false, .bool false, .pointer none, .int .i64 0, .int .i64 0, .slice none 0 0, .pointer none] ty')) w1) : Box2 w w1 t el := by
  have h1 : Below (w.heap.size + 1) (w.alloc (.cells #[.int .i64 t.kind, .int .i64 t.size, .bool t.sg, .bool t.sc, .pointer el, .int .i64 t.len, .int .i64 t.num, .slice none 0 0, .pointer none] ty)) w1 := ((Below.refl _ _).alloc (by simp) _).trans (hb.mono (by simp))
  refine ⟨(cells9_alloc w t el ty).below h1 (by omega), (free9_alloc w _ _ _ _ _ _ _ _ _ ty).below h1 (by omega), ?_, ?_, ?_⟩
  · have := cells9_void (w.alloc (.cells #[.int .i64 t.kind, .int .i64 t.size, .bool t.sg, .bool t.sc, .pointer el, .int .i64 t.len, .int .i64 t.num, .slice none 0 0, .pointer none] ty)) ty'
    rw [World.size_alloc] at this
    exact this.below hb (by simp)
  · have := free9_alloc (w.alloc (.cells #[.int .i64 t.kind, .int .i64 t.size, .bool t.sg, .bool t.sc, .pointer el, .int .i64 t.len, .int .i64 t.num, .slice none 0 0, .pointer none] ty)) (.int .i64 0) (.int .i64 0) (.bool false) (.bool false) (.pointer none) (.int .i64 0) (.int .i64 0) (.slice none 0 0) (.pointer none) ty'
    rw [World.size_alloc] at this
    exact this.below hb (by simp)
  · have := hb.size; simp at this; omega

theorem bcell {W w1 : World} (hb : Below W.heap.size W w1) : (∀ b o, b < W.heap.size → w1.cell? ⟨b, o, none⟩ = W.cell? ⟨b, o, none⟩) ∧ (∀ b o, b < W.heap.size → w1.frozen? ⟨b, o, none⟩ = W.frozen? ⟨b, o, none⟩) :=
  ⟨fun b o h => hb.cell (p := ⟨b, o, none⟩) h, fun b o h => hb.frozen (p := ⟨b, o, none⟩) h⟩

theorem ret_bool {a b : Bool} (h : a = b) : Ending.returned (.bool a) = .returned (.bool b) := by rw [h]
theorem ret_int {k : IntKind} {a b : Int} (h : a = b) : Ending.returned (.int k a) = .returned (.int k b) := by rw [h]
end Go.Proofs.YtoajcggiccfaiaaDoor
