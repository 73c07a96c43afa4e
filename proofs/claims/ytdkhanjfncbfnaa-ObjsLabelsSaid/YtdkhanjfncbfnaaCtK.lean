import Derived.Test.YtdkhanjfncbfnaaRows
import Derived.WalkKit
import Derived.ProofKit
import Derived.Outline
import Derived.WalkLawsBesides
import Derived.WalkSpells
import Derived.Lib.Hide
import Derived.Lib.Strings
import Derived.Below
import Derived.RegionTactic
import Derived.Deep.RegionHeld3
import Derived.Deep.DeepCutAuto
import Derived.BigQuiet
import Derived.Deep.QuietTactic
import Derived.StillTactics
import Derived.Laws.Pointers
import Derived.KernelRfl
import Derived.OwnWalk
import Derived.Deep.AppendLies
import Derived.Laws.OwnMore
namespace Go.Proofs.Ytdkhanjfncbfnaa
open Go Go.RowKit

/-- The types that the statements make. -/
inductive Ty where
  | void
  | int (n : Int) (sg sc : Bool)
  | ptr (t : Ty)
  | arr (t : Ty) (n : Int)
  | st (k : Int)

namespace Ty
def kind : Ty → Int | void => 0 | int _ _ _ => 1 | ptr _ => 2 | arr _ _ => 3 | st _ => 4
def size : Ty → Int | int n _ _ => n | ptr _ => 8 | _ => 0
def sg : Ty → Bool | int _ b _ => b | _ => false
def sc : Ty → Bool | int _ _ b => b | _ => false
def len : Ty → Int | arr _ n => n | _ => 0
def num : Ty → Int | st k => k | _ => 0
end Ty

def tyV (t : Ty) (el : Option Addr) : Value := .agg #[.int .i64 t.kind, .int .i64 t.size, .bool t.sg, .bool t.sc, .pointer el, .int .i64 t.len, .int .i64 t.num, .slice none 0 0, .pointer none]

/-- The nine cells of block b from offset o on. -/
structure Cells9 (w : World) (b o : Nat) (t : Ty) (el : Option Addr) : Prop where
  c0 : w.cell? ⟨b, o, none⟩ = some (.int .i64 t.kind)
  c1 : w.cell? ⟨b, o + 1, none⟩ = some (.int .i64 t.size)
  c2 : w.cell? ⟨b, o + 2, none⟩ = some (.bool t.sg)
  c3 : w.cell? ⟨b, o + 3, none⟩ = some (.bool t.sc)
  c4 : w.cell? ⟨b, o + 4, none⟩ = some (.pointer el)
  c5 : w.cell? ⟨b, o + 5, none⟩ = some (.int .i64 t.len)
  c6 : w.cell? ⟨b, o + 6, none⟩ = some (.int .i64 t.num)
  c7 : w.cell? ⟨b, o + 7, none⟩ = some (.slice none 0 0)
  c8 : w.cell? ⟨b, o + 8, none⟩ = some (.pointer none)

/-- What lies behind a type's pointer, all of it in the blocks from lo up to hi. -/
def ElAt (w : World) (lo hi : Nat) : Ty → Option Addr → Prop
  | .ptr t, el => ∃ b e, el = some ⟨b, 0, none⟩ ∧ lo ≤ b ∧ b < hi ∧ Cells9 w b 0 t e ∧ ElAt w lo hi t e
  | .arr t _, el => ∃ b e, el = some ⟨b, 0, none⟩ ∧ lo ≤ b ∧ b < hi ∧ Cells9 w b 0 t e ∧ ElAt w lo hi t e
  | _, el => el = none

theorem Cells9.below {w w' : World} {b o : Nat} {t : Ty} {el : Option Addr} {lim : Nat} (h : Cells9 w b o t el) (hb : Below lim w w') (hl : b < lim) : Cells9 w' b o t el := by
  obtain ⟨h0, h1, h2, h3, h4, h5, h6, h7, h8⟩ := h
  constructor <;> (rw [hb.cell (by exact hl)]; assumption)

theorem Cells9.setCell {w : World} {b o : Nat} {t : Ty} {el : Option Addr} {p : Addr} (h : Cells9 w b o t el) (hb : p.block ≠ b) (u : Value) : Cells9 (w.setCell p u) b o t el := by
  have h' : ∀ o', (w.setCell p u).cell? ⟨b, o', none⟩ = w.cell? ⟨b, o', none⟩ := fun o' => World.cell?_of_block (Below.heap_setCell w p u b (Ne.symm hb))
  obtain ⟨h0, h1, h2, h3, h4, h5, h6, h7, h8⟩ := h
  constructor <;> (rw [h']; assumption)

theorem ElAt.below {w w' : World} {lo hi lim : Nat} (hb : Below lim w w') (hl : hi ≤ lim) : ∀ {t : Ty} {el : Option Addr}, ElAt w lo hi t el → ElAt w' lo hi t el := by
  intro t
  induction t with
  | void => exact fun h => h
  | int n a b => exact fun h => h
  | st k => exact fun h => h
  | ptr t ih =>
    rintro el ⟨b, e, h1, h2, h3, h4, h5⟩
    exact ⟨b, e, h1, h2, h3, h4.below hb (by omega), ih h5⟩
  | arr t n ih =>
    rintro el ⟨b, e, h1, h2, h3, h4, h5⟩
    exact ⟨b, e, h1, h2, h3, h4.below hb (by omega), ih h5⟩

theorem ElAt.setCell {w : World} {lo hi : Nat} {p : Addr} (hp : p.block < lo ∨ hi ≤ p.block) (u : Value) : ∀ {t : Ty} {el : Option Addr}, ElAt w lo hi t el → ElAt (w.setCell p u) lo hi t el := by
  intro t
  induction t with
  | void => exact fun h => h
  | int n a b => exact fun h => h
  | st k => exact fun h => h
  | ptr t ih =>
    rintro el ⟨b, e, h1, h2, h3, h4, h5⟩
    exact ⟨b, e, h1, h2, h3, h4.setCell (by omega) u, ih h5⟩
  | arr t n ih =>
    rintro el ⟨b, e, h1, h2, h3, h4, h5⟩
    exact ⟨b, e, h1, h2, h3, h4.setCell (by omega) u, ih h5⟩

theorem ElAt.mono {w : World} {lo hi lo' hi' : Nat} (hl : lo' ≤ lo) (hh : hi ≤ hi') : ∀ {t : Ty} {el : Option Addr}, ElAt w lo hi t el → ElAt w lo' hi' t el := by
  intro t
  induction t with
  | void => exact fun h => h
  | int n a b => exact fun h => h
  | st k => exact fun h => h
  | ptr t ih =>
    rintro el ⟨b, e, h1, h2, h3, h4, h5⟩
    exact ⟨b, e, h1, by omega, by omega, h4, ih h5⟩
  | arr t n ih =>
    rintro el ⟨b, e, h1, h2, h3, h4, h5⟩
    exact ⟨b, e, h1, by omega, by omega, h4, ih h5⟩

theorem ElAt.set_lo {w : World} {lo hi : Nat} {p : Addr} {t : Ty} {el : Option Addr} (h : ElAt w lo hi t el) (hp : p.block < lo) (u : Value) : ElAt (w.setCell p u) lo hi t el := ElAt.setCell (Or.inl hp) u h
theorem ElAt.set_hi {w : World} {lo hi : Nat} {p : Addr} {t : Ty} {el : Option Addr} (h : ElAt w lo hi t el) (hp : hi ≤ p.block) (u : Value) : ElAt (w.setCell p u) lo hi t el := ElAt.setCell (Or.inr hp) u h

theorem cells9_alloc (w : World) (t : Ty) (el : Option Addr) (ty : TypeId) : Cells9 (w.alloc (.cells #[.int .i64 t.kind, .int .i64 t.size, .bool t.sg, .bool t.sc, .pointer el, .int .i64 t.len, .int .i64 t.num, .slice none 0 0, .pointer none] ty)) w.heap.size 0 t el := by
  constructor <;> simp

theorem cells9_at (w : World) (b : Nat) (h : w.heap.size = b) (t : Ty) (el : Option Addr) (ty : TypeId) : Cells9 (w.alloc (.cells #[.int .i64 t.kind, .int .i64 t.size, .bool t.sg, .bool t.sc, .pointer el, .int .i64 t.len, .int .i64 t.num, .slice none 0 0, .pointer none] ty)) b 0 t el := by
  subst h; exact cells9_alloc _ _ _ _
theorem ElAt.alloc {w : World} {lo hi : Nat} {t : Ty} {el : Option Addr} (h : ElAt w lo hi t el) (hh : hi ≤ w.heap.size) (o : Obj) : ElAt (w.alloc o) lo hi t el :=
  h.below ((Below.refl _ _).alloc (Nat.le_refl _) o) hh
theorem Cells9.alloc {w : World} {b o : Nat} {t : Ty} {el : Option Addr} (h : Cells9 w b o t el) (hh : b < w.heap.size) (x : Obj) : Cells9 (w.alloc x) b o t el :=
  h.below ((Below.refl _ _).alloc (Nat.le_refl _) x) hh
theorem tyV_ptr (t : Ty) (el : Option Addr) : tyV (.ptr t) el = .agg #[.int .i64 2, .int .i64 8, .bool false, .bool false, .pointer el, .int .i64 0, .int .i64 0, .slice none 0 0, .pointer none] := rfl
theorem tyV_arr (t : Ty) (n : Int) (el : Option Addr) : tyV (.arr t n) el = .agg #[.int .i64 3, .int .i64 0, .bool false, .bool false, .pointer el, .int .i64 n, .int .i64 0, .slice none 0 0, .pointer none] := rfl

/-- None of the nine cells of block b is frozen. -/
structure Free9 (w : World) (b : Nat) : Prop where
  f0 : w.frozen? ⟨b, 0, none⟩ = false
  f1 : w.frozen? ⟨b, 1, none⟩ = false
  f2 : w.frozen? ⟨b, 2, none⟩ = false
  f3 : w.frozen? ⟨b, 3, none⟩ = false
  f4 : w.frozen? ⟨b, 4, none⟩ = false
  f5 : w.frozen? ⟨b, 5, none⟩ = false
  f6 : w.frozen? ⟨b, 6, none⟩ = false
  f7 : w.frozen? ⟨b, 7, none⟩ = false
  f8 : w.frozen? ⟨b, 8, none⟩ = false

theorem Free9.below {w w' : World} {b : Nat} {lim : Nat} (h : Free9 w b) (hb : Below lim w w') (hl : b < lim) : Free9 w' b := by
  obtain ⟨h0, h1, h2, h3, h4, h5, h6, h7, h8⟩ := h
  constructor <;> (rw [hb.frozen (by exact hl)]; assumption)

theorem free9_alloc (w : World) (c0 c1 c2 c3 c4 c5 c6 c7 c8 : Value) (ty : TypeId) : Free9 (w.alloc (.cells #[c0, c1, c2, c3, c4, c5, c6, c7, c8] ty)) w.heap.size := by
  constructor <;> simp

theorem cells9_void (w : World) (ty : TypeId) : Cells9 (w.alloc (.cells #[.int .i64 0, .int .i64 0, .bool false, .bool false, .pointer none, .int .i64 0, .int .i64 0, .slice none 0 0, .pointer none] ty)) w.heap.size 0 .void none := by
  constructor <;> simp [Ty.kind, Ty.size, Ty.sg, Ty.sc, Ty.len, Ty.num]

/-- A box and a result's place, made one behind the other, and what became of the world since. -/
structure Box2 (w w1 : World) (t : Ty) (el : Option Addr) : Prop where
  a : Cells9 w1 w.heap.size 0 t el
  b : Free9 w1 w.heap.size
  c : Cells9 w1 (w.heap.size + 1) 0 .void none
  d : Free9 w1 (w.heap.size + 1)
  z : w.heap.size + 1 < w1.heap.size

theorem box2 {w w1 : World} {t : Ty} {el : Option Addr} {ty ty' : TypeId} (hb : Below ((w.alloc (.cells #[.int .i64 t.kind, .int .i64 t.size, .bool t.sg, .bool t.sc, .pointer el, .int .i64 t.len, .int .i64 t.num, .slice none 0 0, .pointer none] ty)).alloc (.cells #[.int .i64 0, .int .i64 0, .bool false, .bool false, .pointer none, .int .i64 0, .int .i64 0, .slice none 0 0, .pointer none] ty')).heap.size ((w.alloc (.cells #[.int .i64 t.kind, .int .i64 t.size, .bool t.sg, .bool t.sc, .pointer el, .int .i64 t.len, .int .i64 t.num, .slice none 0 0, .pointer none] ty)).alloc (.cells #[.int .i64 0, .int .i64 0, .bool false, .bool false, .pointer none, .int .i64 0, .int .i64 0, .slice none 0 0, .pointer none] ty')) w1) : Box2 w w1 t el := by
  have h1 : Below (w.heap.size + 1) (w.alloc (.cells #[.int .i64 t.kind, .int .i64 t.size, .bool t.sg, .bool t.sc, .pointer el, .int .i64 t.len, .int .i64 t.num, .slice none 0 0, .pointer none] ty)) w1 := ((Below.refl _ _).alloc (by simp) _).trans (hb.mono (by simp))
  refine ⟨(cells9_alloc w t el ty).below h1 (by omega), (free9_alloc w _ _ _ _ _ _ _ _ _ ty).below h1 (by omega), ?_, ?_, ?_⟩
  · have := cells9_void (w.alloc (.cells #[.int .i64 t.kind, .int .i64 t.size, .bool t.sg, .bool t.sc, .pointer el, .int .i64 t.len, .int .i64 t.num, .slice none 0 0, .pointer none] ty)) ty'
    rw [World.size_alloc] at this
    exact this.below hb (by simp)
  · have := free9_alloc (w.alloc (.cells #[.int .i64 t.kind, .int .i64 t.size, .bool t.sg, .bool t.sc, .pointer el, .int .i64 t.len, .int .i64 t.num, .slice none 0 0, .pointer none] ty)) (.int .i64 0) (.int .i64 0) (.bool false) (.bool false) (.pointer none) (.int .i64 0) (.int .i64 0) (.slice none 0 0) (.pointer none) ty'
    rw [World.size_alloc] at this
    exact this.below hb (by simp)
  · have := hb.size; simp at this; omega

theorem bcell {W w1 : World} (hb : Below W.heap.size W w1) : (∀ b o, b < W.heap.size → w1.cell? ⟨b, o, none⟩ = W.cell? ⟨b, o, none⟩) ∧ (∀ b o, b < W.heap.size → w1.frozen? ⟨b, o, none⟩ = W.frozen? ⟨b, o, none⟩) :=
  ⟨fun b o h => hb.cell (p := ⟨b, o, none⟩) h, fun b o h => hb.frozen (p := ⟨b, o, none⟩) h⟩

theorem ret_bool {a b : Bool} (h : a = b) : Ending.returned (.bool a) = .returned (.bool b) := by rw [h]
theorem ret_int {k : IntKind} {a b : Int} (h : a = b) : Ending.returned (.int k a) = .returned (.int k b) := by rw [h]

open Go Go.RowKit

set_option maxHeartbeats 400000 in
theorem CintOf_any (n : Int) (sg : Bool) (w : World) :
    Calls Try.prog 24 #[.int .i64 n, .bool sg] w fun e w' => e = .returned (tyV (.int n sg false) none) ∧ Below w.heap.size w w' := by
  go_enter Try.func24, Try.ntmps24
  go_wp2
  refine bodyPost_ret (v := tyV (.int n sg false) none) ?_ rfl ⟨rfl, ?_⟩
  · simp [results, Try.results24, go_sem, tyV, Ty.kind, Ty.size, Ty.sg, Ty.sc, Ty.len, Ty.num]
  · exact ((Below.refl _ _).alloc (Nat.le_refl _) _)

set_option maxHeartbeats 400000 in
theorem voidType_any (w : World) :
    Calls Try.prog 56 #[] w fun e w' => e = .returned (tyV .void none) ∧ Below w.heap.size w w' := by
  go_enter Try.func56, Try.ntmps56
  go_wp2
  refine bodyPost_ret (v := tyV .void none) ?_ rfl ⟨rfl, ?_⟩
  · simp [results, Try.results56, go_sem, tyV, Ty.kind, Ty.size, Ty.sg, Ty.sc, Ty.len, Ty.num]
  · exact ((Below.refl _ _).alloc (Nat.le_refl _) _)

set_option maxHeartbeats 400000 in
theorem target_any (b : Nat) (t : Ty) (el : Option Addr) (w : World) (hc : Cells9 w b 0 t el) :
    Calls Try.prog 40 #[.pointer (some ⟨b, 0, none⟩)] w fun e w' => e = .returned (tyV t el) ∧ Below w.heap.size w w' := by
  obtain ⟨h0, h1, h2, h3, h4, h5, h6, h7, h8⟩ := hc
  have hlt := World.block_lt_of_cell? w _ h0
  simp only [Nat.zero_add] at h1 h2 h3 h4 h5 h6 h7 h8
  go_enter Try.func40, Try.ntmps40
  go_wp2
  refine bodyPost_ret (v := tyV t el) ?_ rfl ⟨rfl, ?_⟩
  · simp [results, Try.results40, go_sem, tyV]
  · exact ((Below.refl _ _).alloc (Nat.le_refl _) _)

set_option maxHeartbeats 400000 in
theorem clone_any (w : World) :
    Calls Try.prog 58 #[.slice none 0 0] w fun e w' => e = .returned (.slice none 0 0) ∧ w = w' := by
  have hn := Lib.run_eql_slice_nil (P := Try.prog) w 55 57 none 0 0 0 0 Try.underlying55
  go_enter Try.func58, Try.ntmps58
  go_wp2
  go_ret
  exact ⟨rfl, rfl⟩

def upM (n a : Int) : Int := if n % a = 0 then n else n - n % a + a

set_option maxHeartbeats 400000 in
theorem up_any (n a : Int) (w : World) (h0 : 0 ≤ n) (h1 : n ≤ 4611686018427387904) (h2 : 1 ≤ a) (h3 : a ≤ 4611686018427387904) :
    Calls Try.prog 54 #[.int .i64 n, .int .i64 a] w fun e w' => e = .returned (.int .i64 (upM n a)) ∧ w = w' := by
  have hm1 : 0 ≤ n % a := Int.emod_nonneg _ (by omega)
  have hm2 : n % a < a := Int.emod_lt_of_pos _ (by omega)
  have hm3 : n % a ≤ n := by
    have := Int.emod_add_mul_ediv n a
    have h5 : 0 ≤ n / a := Int.ediv_nonneg h0 (by omega)
    have h6 : 0 ≤ a * (n / a) := Int.mul_nonneg (by omega) h5
    omega
  by_cases hz : n % a = 0
  · have HU := Lib.hid (show upM n a = n by unfold upM; rw [if_pos hz])
    go_enter Try.func54, Try.ntmps54
    go_wp2
    go_ret
    exact ⟨by simp [HU.out], rfl⟩
  · have HU := Lib.hid (show upM n a = n - n % a + a by unfold upM; rw [if_neg hz])
    have hd : 0 < n % a := by omega
    clear hz
    go_enter Try.func54, Try.ntmps54
    go_wp2
    go_ret
    exact ⟨by simp [HU.out], rfl⟩

open Go Go.RowKit

set_option maxHeartbeats 1000000 in
theorem own_any (t : Ty) (el : Option Addr) (w : World) :
    Calls Try.prog 49 #[tyV t el] w fun e w' => e = .returned (tyV t el) ∧ Below w.heap.size w w' := by
  unfold tyV
  go_enter Try.func49, Try.ntmps49
  go_wp2_with (go_at_call 58; refine (clone_any _).mono ?_; rintro e w' ⟨rfl, rfl⟩)
  refine wp_loop_rounds 1 ?_; rw [rounds_succ]
  go_wp2
  refine bodyPost_ret (v := tyV t el) ?_ rfl ⟨rfl, ?_⟩
  · simp [results, Try.results49, go_sem, tyV]
  · ((repeat (first | (with_reducible exact Below.refl _ _) | (with_reducible apply Below.setCell) | (with_reducible apply Below.alloc))) <;> first | omega | (simp <;> omega))

open Go Go.RowKit

/-- What a fresh pointer points to. -/
def PtrRes (t : Ty) (w : World) (e : Ending) (w' : World) : Prop := ∃ b x, e = .returned (.pointer (some ⟨b, 0, none⟩)) ∧ b < w'.heap.size ∧ w.heap.size ≤ b ∧ Cells9 w' b 0 t x ∧ ElAt w' w.heap.size w'.heap.size t x ∧ Below w.heap.size w w'
def TyRes (t : Ty) (w : World) (e : Ending) (w' : World) : Prop := ∃ el, e = .returned (tyV t el) ∧ ElAt w' w.heap.size w'.heap.size t el ∧ Below w.heap.size w w'

set_option maxHeartbeats 1000000 in
theorem freshAt_nil (w : World) :
    Calls Try.prog 57 #[.pointer none] w fun e w' => e = .returned (.pointer none) ∧ w = w' := by
  go_enter Try.func57, Try.ntmps57
  go_wp2_with fail
  go_ret
  exact ⟨rfl, rfl⟩

set_option maxHeartbeats 1000000 in
theorem freshAt_step (t : Ty) (ih : ∀ (el : Option Addr) (w : World), ElAt w 0 w.heap.size t el → Calls Try.prog 42 #[tyV t el] w (TyRes t w))
    (b : Nat) (el : Option Addr) (w : World) (hc : Cells9 w b 0 t el) (he : ElAt w 0 w.heap.size t el) :
    Calls Try.prog 57 #[.pointer (some ⟨b, 0, none⟩)] w (PtrRes t w) := by
  have H1 := Lib.hid (ih el w he)
  obtain ⟨h0, h1, h2, h3, h4, h5, h6, h7, h8⟩ := hc
  have hlt := World.block_lt_of_cell? w _ h0
  simp only [Nat.zero_add] at h1 h2 h3 h4 h5 h6 h7 h8
  clear ih he
  go_enter Try.func57, Try.ntmps57
  go_wp2_with fail
  refine H1.out.mono ?_
  rintro e w1 ⟨el1, rfl, he1, hb1⟩
  have HE := Lib.hid he1
  have HB := Lib.hid hb1
  have hs := hb1.size
  clear he1 hb1 H1 h0 h1 h2 h3 h4 h5 h6 h7 h8
  unfold tyV
  go_wp2_with fail
  go_ret
  have hal : Below w1.heap.size w1 (w1.alloc (.cells #[.int .i64 t.kind, .int .i64 t.size, .bool t.sg, .bool t.sc, .pointer el1, .int .i64 t.len, .int .i64 t.num, .slice none 0 0, .pointer none] 57)) := (Below.refl _ _).alloc (Nat.le_refl _) _
  refine ⟨w1.heap.size, el1, rfl, by simp, hs, cells9_alloc _ _ _ _, (HE.out.below hal (Nat.le_refl _)).mono (Nat.le_refl _) (by simp), HB.out.trans (hal.mono hs)⟩

set_option maxHeartbeats 1000000 in
theorem fresh_leaf (t : Ty) (w : World) :
    Calls Try.prog 42 #[tyV t none] w fun e w' => e = .returned (tyV t none) ∧ Below w.heap.size w w' := by
  unfold tyV
  go_enter Try.func42, Try.ntmps42
  go_wp2_with (first | (go_at_call 58; refine (clone_any _).mono ?_; rintro e w' ⟨rfl, rfl⟩) | (go_at_call 57; refine (freshAt_nil _).mono ?_; rintro e w' ⟨rfl, rfl⟩))
  refine wp_loop_rounds 1 ?_; rw [rounds_succ]
  go_wp2
  refine bodyPost_ret (v := tyV t none) ?_ rfl ⟨rfl, ?_⟩
  · simp [results, Try.results42, go_sem, tyV]
  · ((repeat (first | (with_reducible exact Below.refl _ _) | (with_reducible apply Below.setCell) | (with_reducible apply Below.alloc))) <;> first | omega | (simp <;> omega))

def FreshRes (t u : Ty) (w : World) (e : Ending) (w' : World) : Prop := ∃ b x, e = .returned (tyV t (some ⟨b, 0, none⟩)) ∧ w.heap.size ≤ b ∧ b < w'.heap.size ∧ Cells9 w' b 0 u x ∧ ElAt w' w.heap.size w'.heap.size u x ∧ Below w.heap.size w w'

set_option maxHeartbeats 2000000 in
theorem fresh_step (t u : Ty) (ih : ∀ (el : Option Addr) (w : World), ElAt w 0 w.heap.size u el → Calls Try.prog 42 #[tyV u el] w (TyRes u w))
    (b : Nat) (el : Option Addr) (w : World) (hlt : b < w.heap.size) (hc : Cells9 w b 0 u el) (he : ElAt w 0 w.heap.size u el) :
    Calls Try.prog 42 #[tyV t (some ⟨b, 0, none⟩)] w (FreshRes t u w) := by
  have HC := Lib.hid hc
  have HE := Lib.hid he
  have HI := Lib.hid ih
  unfold tyV
  clear ih he hc
  go_enter Try.func42, Try.ntmps42
  go_wp2_with fail
  have hbW : Below w.heap.size w ((w.alloc (.cells #[.int .i64 t.kind, .int .i64 t.size, .bool t.sg, .bool t.sc, .pointer (some ⟨b, 0, none⟩), .int .i64 t.len, .int .i64 t.num, .slice none 0 0, .pointer none] 57)).alloc (.cells #[.int .i64 0, .int .i64 0, .bool false, .bool false, .pointer none, .int .i64 0, .int .i64 0, .slice none 0 0, .pointer none] 57)) := ((Below.refl _ _).alloc (Nat.le_refl _) _).alloc (by simp) _
  refine (freshAt_step u HI.out b el _ (HC.out.below hbW hlt) ((HE.out.below hbW (Nat.le_refl _)).mono (Nat.le_refl _) (by simp; omega))).mono ?_
  rintro e w1 ⟨nb, x, rfl, hnb, hnb2, hc9, hel, hb⟩
  have HBW := Lib.hid (hbW.trans (hb.mono (by simp; omega)))
  obtain ⟨⟨k0, k1, k2, k3, k4, k5, k6, k7, k8⟩, ⟨f0, f1, f2, f3, f4, f5, f6, f7, f8⟩, ⟨r0, r1, r2, r3, r4, r5, r6, r7, r8⟩, ⟨g0, g1, g2, g3, g4, g5, g6, g7, g8⟩, hz⟩ := box2 hb
  simp only [Nat.zero_add] at k1 k2 k3 k4 k5 k6 k7 k8 r1 r2 r3 r4 r5 r6 r7 r8
  have hnb3 : w.heap.size + 1 < nb := by simp at hnb2; omega
  have HC9 := Lib.hid hc9
  have HEL := Lib.hid hel
  clear hb hbW hc9 hel hnb2 HC HE HI
  go_wp2_with (first | (go_at_call 58; refine (clone_any _).mono ?_; rintro e w' ⟨rfl, rfl⟩) | (go_at_call 57; refine (freshAt_nil _).mono ?_; rintro e w' ⟨rfl, rfl⟩))
  refine wp_loop_rounds 1 ?_; rw [rounds_succ]
  go_wp2
  have hns : w.heap.size ≠ nb := by omega
  have hns1 : w.heap.size + 1 ≠ nb := by omega
  refine bodyPost_ret (v := tyV t (some ⟨nb, 0, none⟩)) ?_ rfl ⟨nb, x, rfl, by omega, by simp; omega, ?_, ?_, ?_⟩
  · simp [results, Try.results42, go_sem, tyV, r0, r1, r2, r3, r4, r5, r6, r7, r8]
  · have := HC9.out
    (repeat (first | (with_reducible exact this) | (with_reducible apply Cells9.setCell))) <;> assumption
  · have := HEL.out
    simp only [World.size_setCell]
    refine ElAt.mono (lo := w.heap.size + 2) (by omega) (Nat.le_refl _) ?_
    have h2 : ElAt w1 (w.heap.size + 2) w1.heap.size u x := this.mono (by simp) (Nat.le_refl _)
    (repeat (first | (with_reducible exact h2) | (with_reducible apply ElAt.set_lo))) <;> first | omega | (simp <;> omega)
  · have := HBW.out
    (repeat (first | (with_reducible exact this) | (with_reducible apply Below.setCell))) <;> simp
theorem fresh_any (t : Ty) : ∀ (el : Option Addr) (w : World), ElAt w 0 w.heap.size t el → Calls Try.prog 42 #[tyV t el] w (TyRes t w) := by
  have leaf : ∀ (t : Ty) (w : World), (∀ w' lo hi, ElAt w' lo hi t none) → Calls Try.prog 42 #[tyV t none] w (TyRes t w) := fun t w h =>
    (fresh_leaf t w).mono fun e w' ⟨h1, h2⟩ => ⟨none, h1, h _ _ _, h2⟩
  induction t with
  | void => rintro el w rfl; exact leaf _ _ fun _ _ _ => rfl
  | int n a b => rintro el w rfl; exact leaf _ _ fun _ _ _ => rfl
  | st k => rintro el w rfl; exact leaf _ _ fun _ _ _ => rfl
  | ptr t ih =>
    rintro el w ⟨b, e, rfl, _, h2, h3, h4⟩
    refine (fresh_step (.ptr t) t ih b e w h2 h3 h4).mono ?_
    rintro e w' ⟨b, x, h1, h2, h3, h4, h5, h6⟩
    exact ⟨some ⟨b, 0, none⟩, h1, ⟨b, x, rfl, h2, h3, h4, h5⟩, h6⟩
  | arr t n ih =>
    rintro el w ⟨b, e, rfl, _, h2, h3, h4⟩
    refine (fresh_step (.arr t n) t ih b e w h2 h3 h4).mono ?_
    rintro e w' ⟨b, x, h1, h2, h3, h4, h5, h6⟩
    exact ⟨some ⟨b, 0, none⟩, h1, ⟨b, x, rfl, h2, h3, h4, h5⟩, h6⟩

theorem freshAt_any (t : Ty) (b : Nat) (el : Option Addr) (w : World) (hc : Cells9 w b 0 t el) (he : ElAt w 0 w.heap.size t el) :
    Calls Try.prog 57 #[.pointer (some ⟨b, 0, none⟩)] w (PtrRes t w) :=
  freshAt_step t (fresh_any t) b el w hc he

open Go Go.RowKit

set_option maxHeartbeats 1000000 in
theorem ptrTo_any (t : Ty) (el : Option Addr) (w : World) (lo : Nat) (hlo : lo ≤ w.heap.size) (he : ElAt w lo w.heap.size t el) :
    Calls Try.prog 28 #[tyV t el] w fun e w' => ∃ el', e = .returned (tyV (.ptr t) el') ∧ ElAt w' lo w'.heap.size (.ptr t) el' ∧ Below w.heap.size w w' := by
  have HE := Lib.hid he
  clear he
  unfold tyV
  go_enter Try.func28, Try.ntmps28
  go_wp2_with fail
  refine (own_any t el _).mono ?_
  rintro e w1 ⟨rfl, hb⟩
  obtain ⟨⟨k0, k1, k2, k3, k4, k5, k6, k7, k8⟩, ⟨f0, f1, f2, f3, f4, f5, f6, f7, f8⟩, ⟨r0, r1, r2, r3, r4, r5, r6, r7, r8⟩, ⟨g0, g1, g2, g3, g4, g5, g6, g7, g8⟩, hz⟩ := box2 hb
  simp only [Nat.zero_add] at k1 k2 k3 k4 k5 k6 k7 k8 r1 r2 r3 r4 r5 r6 r7 r8
  have hbw : Below w.heap.size w w1 := (((Below.refl _ _).alloc (Nat.le_refl _) _).alloc (by simp) _).trans (hb.mono (by simp; omega))
  have HB := Lib.hid hbw
  clear hb hbw
  unfold tyV
  go_wp2_with fail
  have hne : w.heap.size + 1 ≠ w1.heap.size := by omega
  have hE := HE.out.below HB.out (Nat.le_refl _)
  have hbw := HB.out
  refine bodyPost_ret (v := tyV (.ptr t) (some ⟨w1.heap.size, 0, none⟩)) ?_ rfl ⟨some ⟨w1.heap.size, 0, none⟩, rfl, ⟨w1.heap.size, el, rfl, by omega, by simp, cells9_at _ _ (by simp) _ _ _, ?_⟩, ?_⟩
  · rw [tyV_ptr]; simp [results, Try.results28, go_sem, r0, r1, r2, r3, r4, r5, r6, r7, r8, hz]
  · refine ElAt.mono (hi := w.heap.size) (Nat.le_refl _) (by simp; omega) ?_
    ((repeat (first | (with_reducible exact hE) | (with_reducible apply ElAt.set_hi) | (with_reducible apply ElAt.alloc))) <;> first | omega | (simp <;> omega))
  · ((repeat (first | (with_reducible exact hbw) | (with_reducible apply Below.setCell) | (with_reducible apply Below.alloc))) <;> first | omega | (simp <;> omega))

set_option maxHeartbeats 1000000 in
theorem arrayOf_any (t : Ty) (n : Int) (el : Option Addr) (w : World) (lo : Nat) (hlo : lo ≤ w.heap.size) (he : ElAt w lo w.heap.size t el) :
    Calls Try.prog 36 #[tyV t el, .int .i64 n] w fun e w' => ∃ el', e = .returned (tyV (.arr t n) el') ∧ ElAt w' lo w'.heap.size (.arr t n) el' ∧ Below w.heap.size w w' := by
  have HE := Lib.hid he
  clear he
  unfold tyV
  go_enter Try.func36, Try.ntmps36
  go_wp2_with fail
  refine (own_any t el _).mono ?_
  rintro e w1 ⟨rfl, hb⟩
  obtain ⟨⟨k0, k1, k2, k3, k4, k5, k6, k7, k8⟩, ⟨f0, f1, f2, f3, f4, f5, f6, f7, f8⟩, ⟨r0, r1, r2, r3, r4, r5, r6, r7, r8⟩, ⟨g0, g1, g2, g3, g4, g5, g6, g7, g8⟩, hz⟩ := box2 hb
  simp only [Nat.zero_add] at k1 k2 k3 k4 k5 k6 k7 k8 r1 r2 r3 r4 r5 r6 r7 r8
  have hbw : Below w.heap.size w w1 := (((Below.refl _ _).alloc (Nat.le_refl _) _).alloc (by simp) _).trans (hb.mono (by simp; omega))
  have HB := Lib.hid hbw
  clear hb hbw
  unfold tyV
  go_wp2_with fail
  have hne : w.heap.size + 1 ≠ w1.heap.size := by omega
  have hE := HE.out.below HB.out (Nat.le_refl _)
  have hbw := HB.out
  refine bodyPost_ret (v := tyV (.arr t n) (some ⟨w1.heap.size, 0, none⟩)) ?_ rfl ⟨some ⟨w1.heap.size, 0, none⟩, rfl, ⟨w1.heap.size, el, rfl, by omega, by simp, cells9_at _ _ (by simp) _ _ _, ?_⟩, ?_⟩
  · rw [tyV_arr]; simp [results, Try.results36, go_sem, r0, r1, r2, r3, r4, r5, r6, r7, r8, hz]
  · refine ElAt.mono (hi := w.heap.size) (Nat.le_refl _) (by simp; omega) ?_
    ((repeat (first | (with_reducible exact hE) | (with_reducible apply ElAt.set_hi) | (with_reducible apply ElAt.alloc))) <;> first | omega | (simp <;> omega))
  · ((repeat (first | (with_reducible exact hbw) | (with_reducible apply Below.setCell) | (with_reducible apply Below.alloc))) <;> first | omega | (simp <;> omega))

open Go Go.RowKit

theorem tyV_int (n : Int) (b c : Bool) : tyV (.int n b c) none = .agg #[.int .i64 1, .int .i64 n, .bool b, .bool c, .pointer none, .int .i64 0, .int .i64 0, .slice none 0 0, .pointer none] := rfl

def secT : Ty → Ty
  | .int n b _ => .int n b true
  | .arr t n => .arr (secT t) n
  | t => t
def openT : Ty → Ty
  | .int n b _ => .int n b false
  | t => t

set_option maxHeartbeats 1000000 in
theorem secret_int (n : Int) (b c : Bool) (w : World) :
    Calls Try.prog 17 #[tyV (.int n b c) none] w fun e w' => e = .returned (tyV (.int n b true) none) ∧ Below w.heap.size w w' := by
  rw [tyV_int, tyV_int]
  go_enter Try.func17, Try.ntmps17
  go_wp2_with fail
  refine bodyPost_ret (v := tyV (.int n b true) none) ?_ rfl ⟨rfl, ?_⟩
  · rw [tyV_int]; simp [results, Try.results17, go_sem]
  · ((repeat (first | (with_reducible exact Below.refl _ _) | (with_reducible apply Below.setCell) | (with_reducible apply Below.alloc))) <;> first | omega | (simp <;> omega))

set_option maxHeartbeats 1000000 in
theorem secret_fresh (t : Ty) (h1 : (t.kind == 1) = false) (h3 : (t.kind == 3) = false) (el : Option Addr) (w : World) (he : ElAt w 0 w.heap.size t el) :
    Calls Try.prog 17 #[tyV t el] w (TyRes t w) := by
  have HE := Lib.hid he
  clear he
  unfold tyV
  go_enter Try.func17, Try.ntmps17
  go_wp2_with fail
  have hbW : Below w.heap.size w ((w.alloc (.cells #[.int .i64 t.kind, .int .i64 t.size, .bool t.sg, .bool t.sc, .pointer el, .int .i64 t.len, .int .i64 t.num, .slice none 0 0, .pointer none] 57)).alloc (.cells #[.int .i64 0, .int .i64 0, .bool false, .bool false, .pointer none, .int .i64 0, .int .i64 0, .slice none 0 0, .pointer none] 57)) := ((Below.refl _ _).alloc (Nat.le_refl _) _).alloc (by simp) _
  refine (fresh_any t el _ ((HE.out.below hbW (Nat.le_refl _)).mono (Nat.le_refl _) (by simp; omega))).mono ?_
  rintro e w1 ⟨x, rfl, he, hb⟩
  obtain ⟨⟨k0, k1, k2, k3, k4, k5, k6, k7, k8⟩, ⟨f0, f1, f2, f3, f4, f5, f6, f7, f8⟩, ⟨r0, r1, r2, r3, r4, r5, r6, r7, r8⟩, ⟨g0, g1, g2, g3, g4, g5, g6, g7, g8⟩, hz⟩ := box2 hb
  simp only [Nat.zero_add] at k1 k2 k3 k4 k5 k6 k7 k8 r1 r2 r3 r4 r5 r6 r7 r8
  have HB := Lib.hid (hbW.trans (hb.mono (by simp; omega)))
  have he2 : ElAt w1 (w.heap.size + 2) w1.heap.size t x := by simpa using he
  have HE2 := Lib.hid he2
  clear hb hbW he he2 HE
  unfold tyV
  go_wp2_with fail
  have hE := HE2.out
  have hbw := HB.out
  refine bodyPost_ret (v := tyV t x) ?_ rfl ⟨x, rfl, ?_, ?_⟩
  · unfold tyV; simp [results, Try.results17, go_sem, r0, r1, r2, r3, r4, r5, r6, r7, r8]
  · simp only [World.size_setCell]
    refine ElAt.mono (lo := w.heap.size + 2) (by omega) (Nat.le_refl _) ?_
    ((repeat (first | (with_reducible exact hE) | (with_reducible apply ElAt.set_lo))) <;> first | omega | (simp <;> omega))
  · ((repeat (first | (with_reducible exact hbw) | (with_reducible apply Below.setCell) | (with_reducible apply Below.alloc))) <;> first | omega | (simp <;> omega))

def prN (n : Int) : Int := if n < 4 then 4 else n
def prS (n : Int) (b : Bool) : Bool := if n < 4 then true else b
def promT : Ty → Ty
  | .int n b c => .int (prN n) (prS n b) c
  | t => t

open Go Go.RowKit

set_option maxHeartbeats 2000000 in
theorem secret_arr (t : Ty) (n : Int) (ih : ∀ (el : Option Addr) (w : World), ElAt w 0 w.heap.size t el → Calls Try.prog 17 #[tyV t el] w (TyRes (secT t) w))
    (b : Nat) (el : Option Addr) (w : World) (hlt : b < w.heap.size) (hc : Cells9 w b 0 t el) (he : ElAt w 0 w.heap.size t el) :
    Calls Try.prog 17 #[tyV (.arr t n) (some ⟨b, 0, none⟩)] w (TyRes (.arr (secT t) n) w) := by
  have HC := Lib.hid hc
  have HE := Lib.hid he
  have HI := Lib.hid ih
  rw [tyV_arr]
  clear ih he hc
  go_enter Try.func17, Try.ntmps17
  go_wp2_with fail
  generalize hW : (w.alloc (.cells #[.int .i64 3, .int .i64 0, .bool false, .bool false, .pointer (some ⟨b, 0, none⟩), .int .i64 n, .int .i64 0, .slice none 0 0, .pointer none] 57)).alloc (.cells #[.int .i64 0, .int .i64 0, .bool false, .bool false, .pointer none, .int .i64 0, .int .i64 0, .slice none 0 0, .pointer none] 57) = W
  have hbW : Below w.heap.size w W := by rw [← hW]; exact ((Below.refl _ _).alloc (Nat.le_refl _) _).alloc (by simp) _
  have hsW : W.heap.size = w.heap.size + 2 := by rw [← hW]; simp
  have HBX := Lib.hid (box2 (t := .arr t n) (el := some ⟨b, 0, none⟩) (w := w) (w1 := W) (by have := Below.refl W.heap.size W; rw [← hW] at this ⊢; exact this))
  have H1 := HC.out.below hbW.drew hlt
  have H2 := ((HE.out.below hbW (Nat.le_refl _)).mono (Nat.le_refl _) (show w.heap.size ≤ W.heap.size by omega))
  have k4 : W.cell? ⟨w.heap.size, 4, none⟩ = some (.pointer (some ⟨b, 0, none⟩)) := HBX.out.a.c4
  have k5 : W.cell? ⟨w.heap.size, 5, none⟩ = some (.int .i64 n) := HBX.out.a.c5
  have HSW := Lib.hid hsW
  have HH1 := Lib.hid H1
  have HH2 := Lib.hid H2
  have HBW := Lib.hid hbW
  clear hW H1 H2 HC HE hsW hbW
  go_region_held3 (fun w' => w'.cell? ⟨w.heap.size, 4, none⟩ = some (.pointer (some ⟨b, 0, none⟩)) ∧ w'.cell? ⟨w.heap.size, 5, none⟩ = some (.int .i64 n)) (go_keep)
    (first
      | (go_at_call 40
         refine (target_any b t el _ HH1.out).mono ?_
         rintro e w1 ⟨rfl, hb1⟩
         have HB1 : Hid (Below W.heap.size W w1) := Lib.hid ((Below.refl _ _).drew.trans hb1)
         have k41 : w1.cell? ⟨w.heap.size, 4, none⟩ = some (.pointer (some ⟨b, 0, none⟩)) := by rw [HB1.out.cell (by simp [HSW.out])]; exact k4
         have k51 : w1.cell? ⟨w.heap.size, 5, none⟩ = some (.int .i64 n) := by rw [HB1.out.cell (by simp [HSW.out])]; exact k5
         clear hb1)
      | (go_at_call 17
         refine (HI.out el _ ((HH2.out.below HB1.out (Nat.le_refl _)).mono (Nat.le_refl _) HB1.out.size)).mono ?_
         rintro e w2 ⟨x, rfl, hx, hb2⟩
         have HB2 : Hid (Below W.heap.size W w2) := Lib.hid (HB1.out.trans (hb2.mono HB1.out.size))
         have k42 : w2.cell? ⟨w.heap.size, 4, none⟩ = some (.pointer (some ⟨b, 0, none⟩)) := by rw [HB2.out.cell (by simp [HSW.out])]; exact k4
         have k52 : w2.cell? ⟨w.heap.size, 5, none⟩ = some (.int .i64 n) := by rw [HB2.out.cell (by simp [HSW.out])]; exact k5
         have HX : Hid (ElAt w2 w1.heap.size w2.heap.size (secT t) x) := Lib.hid hx
         have HZ2 := Lib.hid hb2.size
         clear hx hb2)
      | (go_at_call 36
         refine (arrayOf_any (secT t) n x _ w1.heap.size HZ2.out HX.out).mono ?_
         rintro e w3 ⟨y, rfl, hy, hb3⟩
         have HB3 : Hid (Below W.heap.size W w3) := Lib.hid (HB2.out.trans (hb3.mono HB2.out.size))
         have k43 : w3.cell? ⟨w.heap.size, 4, none⟩ = some (.pointer (some ⟨b, 0, none⟩)) := by rw [HB3.out.cell (by simp [HSW.out])]; exact k4
         have k53 : w3.cell? ⟨w.heap.size, 5, none⟩ = some (.int .i64 n) := by rw [HB3.out.cell (by simp [HSW.out])]; exact k5
         have HY : Hid (ElAt w3 w1.heap.size w3.heap.size (.arr (secT t) n) y) := Lib.hid hy
         obtain ⟨r0, r1, r2, r3, r4, r5, r6, r7, r8⟩ := HBX.out.c.below HB3.out (by simp [HSW.out])
         obtain ⟨g0, g1, g2, g3, g4, g5, g6, g7, g8⟩ := HBX.out.d.below HB3.out (by simp [HSW.out])
         simp only [Nat.zero_add] at r1 r2 r3 r4 r5 r6 r7 r8
         have hz : w.heap.size + 1 < w3.heap.size := by have := HB3.out.size; have := HSW.out; omega
         rw [tyV_arr]
         clear hy hb3))
  have hE := HY.out
  have hz1 := HB1.out.size
  have hz0 := HSW.out
  have hbw := HBW.out.trans (HB3.out.mono (by omega))
  go_wp2
  refine bodyPost_ret (v := tyV (.arr (secT t) n) y) ?_ rfl ⟨y, rfl, ?_, ?_⟩
  · rw [tyV_arr]; simp [results, Try.results17, go_sem, r0, r1, r2, r3, r4, r5, r6, r7, r8]
  · simp only [World.size_setCell]
    refine ElAt.mono (lo := w1.heap.size) (by omega) (Nat.le_refl _) ?_
    ((repeat (first | (with_reducible exact hE) | (with_reducible apply ElAt.set_lo))) <;> first | omega | (simp <;> omega))
  · ((repeat (first | (with_reducible exact hbw) | (with_reducible apply Below.setCell) | (with_reducible apply Below.alloc))) <;> first | omega | (simp <;> omega))

theorem secret_any (t : Ty) : ∀ (el : Option Addr) (w : World), ElAt w 0 w.heap.size t el → Calls Try.prog 17 #[tyV t el] w (TyRes (secT t) w) := by
  induction t with
  | void => exact fun el w h => secret_fresh .void rfl rfl el w h
  | int n a b => rintro el w rfl; exact (secret_int n a b w).mono fun e w' ⟨h1, h2⟩ => ⟨none, h1, rfl, h2⟩
  | st k => exact fun el w h => secret_fresh (.st k) rfl rfl el w h
  | ptr t ih => exact fun el w h => secret_fresh (.ptr t) rfl rfl el w h
  | arr t n ih =>
    rintro el w ⟨b, e, rfl, _, h2, h3, h4⟩
    exact secret_arr t n ih b e w h2 h3 h4

open Go Go.RowKit

def sameT : Ty → Ty → Bool
  | .void, .void => true
  | .int n b c, .int m d e => n == m && (b == d && c == e)
  | .ptr t, .ptr u => sameT t u
  | .arr t n, .arr u m => n == m && sameT t u
  | .st k, .st l => k == l
  | _, _ => false

def CBoolRes (r : Bool) (w : World) (e : Ending) (w' : World) : Prop := e = .returned (.bool r) ∧ Below w.heap.size w w'

structure Boxes (w W : World) (t u : Ty) (a b : Option Addr) : Prop where
  s : W.heap.size = w.heap.size + 2
  l : Below w.heap.size w W
  a : Cells9 W w.heap.size 0 t a
  b : Cells9 W (w.heap.size + 1) 0 u b

theorem boxes_mk (w : World) (t u : Ty) (a b : Option Addr) (x y : TypeId) : Boxes w ((w.alloc (.cells #[.int .i64 t.kind, .int .i64 t.size, .bool t.sg, .bool t.sc, .pointer a, .int .i64 t.len, .int .i64 t.num, .slice none 0 0, .pointer none] x)).alloc (.cells #[.int .i64 u.kind, .int .i64 u.size, .bool u.sg, .bool u.sc, .pointer b, .int .i64 u.len, .int .i64 u.num, .slice none 0 0, .pointer none] y)) t u a b := by
  refine ⟨by simp, ((Below.refl _ _).alloc (Nat.le_refl _) _).alloc (by simp) _, (cells9_alloc w t a x).alloc (by simp) _, cells9_at _ _ (by simp) _ _ _⟩

open Go Go.RowKit

def CIntRes (r : Int) (w : World) (e : Ending) (w' : World) : Prop := e = .returned (.int .i64 r) ∧ Below w.heap.size w w'

set_option maxHeartbeats 1000000 in
theorem size_int (tab : Value) (n : Int) (b c : Bool) (w : World) :
    Calls Try.prog 16 #[tab, tyV (.int n b c) none] w (CIntRes n w) := by
  rw [tyV_int]
  go_enter Try.func16, Try.ntmps16
  go_wp2_with fail
  go_ret
  exact ⟨rfl, (Below.refl _ _).alloc (Nat.le_refl _) _⟩

set_option maxHeartbeats 1000000 in
theorem align_int (tab : Value) (n : Int) (b c : Bool) (w : World) :
    Calls Try.prog 53 #[tab, tyV (.int n b c) none] w (CIntRes n w) := by
  rw [tyV_int]
  go_enter Try.func53, Try.ntmps53
  go_wp2_with fail
  go_ret
  exact ⟨rfl, (Below.refl _ _).alloc (Nat.le_refl _) _⟩

set_option maxHeartbeats 1000000 in
theorem find_empty (tb : Nat) (nm : ByteArray) (w : World) (hc : w.cell? ⟨tb, 0, none⟩ = some (.slice none 0 0)) :
    Calls Try.prog 37 #[.pointer (some ⟨tb, 0, none⟩), .string nm] w fun e w' => e = .returned (.tuple #[.int .i64 0, .bool false]) ∧ w = w' := by
  go_enter Try.func37, Try.ntmps37
  go_wp2_with fail
  refine wp_loop_rounds 1 ?_; rw [rounds_succ]
  go_wp2
  go_ret2
  exact ⟨rfl, rfl⟩

/-- One field's eleven cells. -/
structure FCells (w : World) (b o : Nat) (nm : ByteArray) (n at_ : Int) : Prop where
  s : w.cell? ⟨b, o, none⟩ = some (.string nm)
  c0 : w.cell? ⟨b, o + 1, none⟩ = some (.int .i64 1)
  c1 : w.cell? ⟨b, o + 2, none⟩ = some (.int .i64 n)
  c2 : w.cell? ⟨b, o + 3, none⟩ = some (.bool true)
  c3 : w.cell? ⟨b, o + 4, none⟩ = some (.bool false)
  c4 : w.cell? ⟨b, o + 5, none⟩ = some (.pointer none)
  c5 : w.cell? ⟨b, o + 6, none⟩ = some (.int .i64 0)
  c6 : w.cell? ⟨b, o + 7, none⟩ = some (.int .i64 0)
  c7 : w.cell? ⟨b, o + 8, none⟩ = some (.slice none 0 0)
  c8 : w.cell? ⟨b, o + 9, none⟩ = some (.pointer none)
  a : w.cell? ⟨b, o + 10, none⟩ = some (.int .i64 at_)

theorem FCells.below {w w' : World} {b o : Nat} {nm : ByteArray} {n at_ : Int} {lim : Nat} (h : FCells w b o nm n at_) (hb : Below lim w w') (hl : b < lim) : FCells w' b o nm n at_ := by
  obtain ⟨h0, h1, h2, h3, h4, h5, h6, h7, h8, h9, h10⟩ := h
  constructor <;> (rw [hb.cell (by exact hl)]; assumption)

def fldV (nm : ByteArray) (n at_ : Int) : Value := .agg #[.string nm, .int .i64 1, .int .i64 n, .bool true, .bool false, .pointer none, .int .i64 0, .int .i64 0, .slice none 0 0, .pointer none, .int .i64 at_]
def fld0 : Value := .agg #[.string ⟨#[]⟩, .int .i64 0, .int .i64 0, .bool false, .bool false, .pointer none, .int .i64 0, .int .i64 0, .slice none 0 0, .pointer none, .int .i64 0]

def FRow (w : World) (g n : Nat) (NM : Nat → ByteArray) (SZ AT : Nat → Int) : Prop := ∀ k, k < n → FCells w g (k * 11) (NM k) (SZ k) (AT k)
theorem FRow.below {w w' : World} {g n : Nat} {NM : Nat → ByteArray} {SZ AT : Nat → Int} {lim : Nat} (h : FRow w g n NM SZ AT) (hb : Below lim w w') (hl : g < lim) : FRow w' g n NM SZ AT :=
  fun k hk => (h k hk).below hb hl

/-- A field's place that holds nothing yet. -/
structure RCells (w : World) (b : Nat) : Prop where
  s : w.cell? ⟨b, 0, none⟩ = some (.string ⟨#[]⟩)
  c0 : w.cell? ⟨b, 1, none⟩ = some (.int .i64 0)
  c1 : w.cell? ⟨b, 2, none⟩ = some (.int .i64 0)
  c2 : w.cell? ⟨b, 3, none⟩ = some (.bool false)
  c3 : w.cell? ⟨b, 4, none⟩ = some (.bool false)
  c4 : w.cell? ⟨b, 5, none⟩ = some (.pointer none)
  c5 : w.cell? ⟨b, 6, none⟩ = some (.int .i64 0)
  c6 : w.cell? ⟨b, 7, none⟩ = some (.int .i64 0)
  c7 : w.cell? ⟨b, 8, none⟩ = some (.slice none 0 0)
  c8 : w.cell? ⟨b, 9, none⟩ = some (.pointer none)
  a : w.cell? ⟨b, 10, none⟩ = some (.int .i64 0)
  fs : w.frozen? ⟨b, 0, none⟩ = false
  f0 : w.frozen? ⟨b, 1, none⟩ = false
  f1 : w.frozen? ⟨b, 2, none⟩ = false
  f2 : w.frozen? ⟨b, 3, none⟩ = false
  f3 : w.frozen? ⟨b, 4, none⟩ = false
  f4 : w.frozen? ⟨b, 5, none⟩ = false
  f5 : w.frozen? ⟨b, 6, none⟩ = false
  f6 : w.frozen? ⟨b, 7, none⟩ = false
  f7 : w.frozen? ⟨b, 8, none⟩ = false
  f8 : w.frozen? ⟨b, 9, none⟩ = false
  fa : w.frozen? ⟨b, 10, none⟩ = false

theorem RCells.below {w w' : World} {b : Nat} {lim : Nat} (h : RCells w b) (hb : Below lim w w') (hl : b < lim) : RCells w' b := by
  obtain ⟨h0, h1, h2, h3, h4, h5, h6, h7, h8, h9, h10, f0, f1, f2, f3, f4, f5, f6, f7, f8, f9, f10⟩ := h
  constructor <;> (first | rw [hb.cell (by exact hl)] | rw [hb.frozen (by exact hl)]) <;> assumption

def TupRes (v : Value) (w : World) (e : Ending) (w' : World) : Prop := e = .returned v ∧ Below w.heap.size w w'

set_option maxHeartbeats 1000000 in
theorem fieldOf_nil (nm : ByteArray) (w : World) :
    Calls Try.prog 55 #[.slice none 0 0, .string nm] w (TupRes (.tuple #[fld0, .bool false]) w) := by
  go_enter Try.func55, Try.ntmps55
  go_wp2_with fail
  refine wp_loop_rounds 1 ?_; rw [rounds_succ]
  go_wp2
  refine bodyPost_ret (v := .tuple #[fld0, .bool false]) ?_ rfl ⟨rfl, ?_⟩
  · unfold fld0; simp [results, Try.results55, go_sem]
  · have hbw := Below.refl w.heap.size w
    ((repeat (first | (with_reducible exact hbw) | (with_reducible apply Below.setCell) | (with_reducible apply Below.alloc))) <;> first | omega | (simp <;> omega))

set_option maxHeartbeats 2000000 in
theorem fieldOf_none (g c n : Nat) (hn : n ≤ 20) (NM : Nat → ByteArray) (SZ AT : Nat → Int) (nm : ByteArray) (w : World) (hg : g < w.heap.size) (hr : FRow w g n NM SZ AT)
    (hne : ∀ k, k < n → ((NM k).toList == nm.toList) = false) :
    Calls Try.prog 55 #[.slice (some ⟨g, 0, none⟩) n c, .string nm] w (TupRes (.tuple #[fld0, .bool false]) w) := by
  have HR := Lib.hid hr
  have HN := Lib.hid hne
  clear hr hne
  go_enter Try.func55, Try.ntmps55
  go_wp2_with fail
  generalize hW : w.alloc (.cells #[.string ⟨#[]⟩, .int .i64 0, .int .i64 0, .bool false, .bool false, .pointer none, .int .i64 0, .int .i64 0, .slice none 0 0, .pointer none, .int .i64 0] 61) = W
  have hB0 : Below w.heap.size w W := by rw [← hW]; exact (Below.refl _ _).alloc (Nat.le_refl _) _
  have hsW : W.heap.size = w.heap.size + 1 := by rw [← hW]; simp
  have HB0 := Lib.hid hB0
  have HSW := Lib.hid hsW
  have hrc : RCells W w.heap.size := by rw [← hW]; constructor <;> simp
  have HRC := Lib.hid hrc
  clear hB0 hsW hrc
  go_loopw [10] (fun vi wr => ∃ k : Nat, vi = .int .i64 k ∧ k ≤ n ∧ Below W.heap.size W wr) (fun vi _ => n - (intOf vi).toNat)
  case atStart => exact ⟨0, rfl, by omega, Below.refl _ _⟩
  case round =>
    obtain ⟨k, rfl, hk, hb⟩ := hrel
    have HB := Lib.hid hb
    by_cases hlt : k < n
    · obtain ⟨h0, h1, h2, h3, h4, h5, h6, h7, h8, h9, h10⟩ := ((HR.out k hlt).below HB0.out hg).below hb (by have := HSW.out; omega)
      have he := HN.out k hlt
      clear hb hW
      go_wp2
      go_roundw
      case rel => exact ⟨k + 1, by go_num, by omega, HB.out.alloc HB.out.size _⟩
      case measure => simp [intOf]; omega
    · obtain ⟨h0, h1, h2, h3, h4, h5, h6, h7, h8, h9, h10, f0, f1, f2, f3, f4, f5, f6, f7, f8, f9, f10⟩ := HRC.out.below hb (by have := HSW.out; omega)
      have hz : w.heap.size < wr.heap.size := by have := hb.size; have := HSW.out; omega
      have hbw := HB0.out.trans (hb.mono (by have := HSW.out; omega))
      have HBW := Lib.hid hbw
      clear hb hW hbw
      go_wp2
      have hbw := HBW.out
      refine bodyPost_ret (v := .tuple #[fld0, .bool false]) ?_ rfl ⟨rfl, ?_⟩
      · unfold fld0; simp [results, Try.results55, go_sem, h0, h1, h2, h3, h4, h5, h6, h7, h8, h9, h10]
      · ((repeat (first | (with_reducible exact hbw) | (with_reducible apply Below.setCell) | (with_reducible apply Below.alloc))) <;> first | omega | (simp <;> omega))

open Go Go.RowKit

set_option maxHeartbeats 2000000 in
theorem fieldOf_found (g c n m : Nat) (hn : n ≤ 20) (hm : m < n) (NM : Nat → ByteArray) (SZ AT : Nat → Int) (w : World) (hg : g < w.heap.size) (hr : FRow w g n NM SZ AT)
    (hne : ∀ k, k < m → ((NM k).toList == (NM m).toList) = false) :
    Calls Try.prog 55 #[.slice (some ⟨g, 0, none⟩) n c, .string (NM m)] w (TupRes (.tuple #[fldV (NM m) (SZ m) (AT m), .bool true]) w) := by
  have HR := Lib.hid hr
  have HN := Lib.hid hne
  clear hr hne
  go_enter Try.func55, Try.ntmps55
  go_wp2_with fail
  generalize hW : w.alloc (.cells #[.string ⟨#[]⟩, .int .i64 0, .int .i64 0, .bool false, .bool false, .pointer none, .int .i64 0, .int .i64 0, .slice none 0 0, .pointer none, .int .i64 0] 61) = W
  have hB0 : Below w.heap.size w W := by rw [← hW]; exact (Below.refl _ _).alloc (Nat.le_refl _) _
  have hsW : W.heap.size = w.heap.size + 1 := by rw [← hW]; simp
  have HB0 := Lib.hid hB0
  have HSW := Lib.hid hsW
  have hrc : RCells W w.heap.size := by rw [← hW]; constructor <;> simp
  have HRC := Lib.hid hrc
  clear hB0 hsW hrc
  go_loopw [10] (fun vi wr => ∃ k : Nat, vi = .int .i64 k ∧ k ≤ m ∧ Below W.heap.size W wr) (fun vi _ => n - (intOf vi).toNat)
  case atStart => exact ⟨0, rfl, by omega, Below.refl _ _⟩
  case round =>
    obtain ⟨k, rfl, hk, hb⟩ := hrel
    have HB := Lib.hid hb
    have hkn : k < n := by omega
    by_cases hlt : k < m
    · obtain ⟨h0, h1, h2, h3, h4, h5, h6, h7, h8, h9, h10⟩ := ((HR.out k hkn).below HB0.out hg).below hb (by have := HSW.out; omega)
      have he := HN.out k hlt
      clear hb hW
      go_wp2
      go_roundw
      case rel => exact ⟨k + 1, by go_num, by omega, HB.out.alloc HB.out.size _⟩
      case measure => simp [intOf]; omega
    · obtain rfl : k = m := by omega
      obtain ⟨q0, q1, q2, q3, q4, q5, q6, q7, q8, q9, q10⟩ := ((HR.out k hkn).below HB0.out hg).below hb (by have := HSW.out; omega)
      obtain ⟨h0, h1, h2, h3, h4, h5, h6, h7, h8, h9, h10, f0, f1, f2, f3, f4, f5, f6, f7, f8, f9, f10⟩ := HRC.out.below hb (by have := HSW.out; omega)
      have hz : w.heap.size < wr.heap.size := by have := hb.size; have := HSW.out; omega
      have hbw := HB0.out.trans (hb.mono (by have := HSW.out; omega))
      have HBW := Lib.hid hbw
      clear hb hW hbw
      go_wp2
      have hbw := HBW.out
      refine bodyPost_ret (v := .tuple #[fldV (NM k) (SZ k) (AT k), .bool true]) ?_ rfl ⟨rfl, ?_⟩
      · unfold fldV; simp [results, Try.results55, go_sem, h0, h1, h2, h3, h4, h5, h6, h7, h8, h9, h10, hz]
      · ((repeat (first | (with_reducible exact hbw) | (with_reducible apply Below.setCell) | (with_reducible apply Below.alloc))) <;> first | omega | (simp <;> omega))

/-- A table of one struct. -/
structure TabOne (w : World) (tb rb rc : Nat) (nm : ByteArray) (fa : Option Addr) (fn fc : Nat) (sz al : Int) : Prop where
  t : w.cell? ⟨tb, 0, none⟩ = some (.slice (some ⟨rb, 0, none⟩) 1 rc)
  c0 : w.cell? ⟨rb, 0, none⟩ = some (.string nm)
  c1 : w.cell? ⟨rb, 1, none⟩ = some (.slice fa fn fc)
  c2 : w.cell? ⟨rb, 2, none⟩ = some (.int .i64 sz)
  c3 : w.cell? ⟨rb, 3, none⟩ = some (.int .i64 al)
theorem TabOne.below {w w' : World} {tb rb rc : Nat} {nm : ByteArray} {fa : Option Addr} {fn fc : Nat} {sz al : Int} {lim : Nat} (h : TabOne w tb rb rc nm fa fn fc sz al) (hb : Below lim w w') (ht : tb < lim) (hr : rb < lim) : TabOne w' tb rb rc nm fa fn fc sz al := by
  obtain ⟨h0, h1, h2, h3, h4⟩ := h
  exact ⟨by rw [hb.cell (by exact ht)]; assumption, by rw [hb.cell (by exact hr)]; assumption, by rw [hb.cell (by exact hr)]; assumption, by rw [hb.cell (by exact hr)]; assumption, by rw [hb.cell (by exact hr)]; assumption⟩

set_option maxHeartbeats 2000000 in
theorem record_one (tb rb rc : Nat) (nm : ByteArray) (fa : Option Addr) (fn fc : Nat) (sz al : Int) (w : World) (h : TabOne w tb rb rc nm fa fn fc sz al) :
    Calls Try.prog 41 #[.pointer (some ⟨tb, 0, none⟩), .int .i64 0] w (TupRes (.tuple #[.agg #[.string nm, .slice fa fn fc, .int .i64 sz, .int .i64 al], .bool true]) w) := by
  obtain ⟨h0, h1, h2, h3, h4⟩ := h
  have k0 := World.block_lt_of_cell? w _ h0
  have k1 := World.block_lt_of_cell? w _ h1
  simp at k0 k1
  go_enter Try.func41, Try.ntmps41
  go_wp2_with fail
  have hbw := Below.refl w.heap.size w
  refine bodyPost_ret (v := .tuple #[.agg #[.string nm, .slice fa fn fc, .int .i64 sz, .int .i64 al], .bool true]) ?_ rfl ⟨rfl, ?_⟩
  · simp [results, Try.results41, go_sem]
  · ((repeat (first | (with_reducible exact hbw) | (with_reducible apply Below.setCell) | (with_reducible apply Below.alloc))) <;> first | omega | (simp <;> omega))

set_option maxHeartbeats 2000000 in
theorem size_st (tb rb rc : Nat) (nm : ByteArray) (fa : Option Addr) (fn fc : Nat) (sz al : Int) (w : World) (h : TabOne w tb rb rc nm fa fn fc sz al) :
    Calls Try.prog 16 #[.pointer (some ⟨tb, 0, none⟩), tyV (.st 0) none] w (CIntRes sz w) := by
  have H := Lib.hid h
  have k0 := World.block_lt_of_cell? w _ h.t
  have k1 := World.block_lt_of_cell? w _ h.c0
  simp at k0 k1
  clear h
  have e1 : tyV (.st 0) none = .agg #[.int .i64 4, .int .i64 0, .bool false, .bool false, .pointer none, .int .i64 0, .int .i64 0, .slice none 0 0, .pointer none] := rfl
  rw [e1]
  clear e1
  go_enter Try.func16, Try.ntmps16
  go_wp2_with fail
  refine (record_one tb rb rc nm fa fn fc sz al _ (H.out.below ((Below.refl w.heap.size w).alloc (Nat.le_refl _) _) k0 k1)).mono ?_
  rintro e w1 ⟨rfl, hb⟩
  have hB := Lib.hid (((Below.refl w.heap.size w).alloc (Nat.le_refl _) _).trans (hb.mono (by simp)))
  have hz := hb.size
  simp at hz
  clear hb
  go_wp2_with fail
  go_ret
  exact ⟨rfl, hB.out.alloc (by omega) _⟩

set_option maxHeartbeats 2000000 in
theorem align_st (tb rb rc : Nat) (nm : ByteArray) (fa : Option Addr) (fn fc : Nat) (sz al : Int) (w : World) (h : TabOne w tb rb rc nm fa fn fc sz al) :
    Calls Try.prog 53 #[.pointer (some ⟨tb, 0, none⟩), tyV (.st 0) none] w (CIntRes al w) := by
  have H := Lib.hid h
  have k0 := World.block_lt_of_cell? w _ h.t
  have k1 := World.block_lt_of_cell? w _ h.c0
  simp at k0 k1
  clear h
  have e1 : tyV (.st 0) none = .agg #[.int .i64 4, .int .i64 0, .bool false, .bool false, .pointer none, .int .i64 0, .int .i64 0, .slice none 0 0, .pointer none] := rfl
  rw [e1]
  clear e1
  go_enter Try.func53, Try.ntmps53
  go_wp2_with fail
  refine (record_one tb rb rc nm fa fn fc sz al _ (H.out.below ((Below.refl w.heap.size w).alloc (Nat.le_refl _) _) k0 k1)).mono ?_
  rintro e w1 ⟨rfl, hb⟩
  have hB := Lib.hid (((Below.refl w.heap.size w).alloc (Nat.le_refl _) _).trans (hb.mono (by simp)))
  have hz := hb.size
  simp at hz
  clear hb
  go_wp2_with fail
  go_ret
  exact ⟨rfl, hB.out.alloc (by omega) _⟩
end Go.Proofs.Ytdkhanjfncbfnaa
