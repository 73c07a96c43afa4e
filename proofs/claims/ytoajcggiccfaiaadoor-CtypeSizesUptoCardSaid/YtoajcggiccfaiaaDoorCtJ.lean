import Derived.Test.YtoajcggiccfaiaaDoorCtG
import Derived.StillTailTactics
import Derived.LoopN
import Derived.OwnWalk
import Derived.Deep.AppendLies
import Derived.Laws.OwnMore
namespace Go.Proofs.YtoajcggiccfaiaaDoor
open Go Go.RowKit

def IntRes (r : Int) (w : World) (e : Ending) (w' : World) : Prop := e = .returned (.int .i64 r) ∧ Below w.heap.size w w'

set_option maxHeartbeats 1000000 in
theorem size_int (tab : Value) (n : Int) (b c : Bool) (w : World) :
    Calls Tryd.prog 8 #[tab, tyV (.int n b c) none] w (IntRes n w) := by
  rw [tyV_int]
  go_enter Tryd.func8, Tryd.ntmps8
  go_wp2_with fail
  go_ret
  exact ⟨rfl, (Below.refl _ _).alloc (Nat.le_refl _) _⟩

set_option maxHeartbeats 1000000 in
theorem align_int (tab : Value) (n : Int) (b c : Bool) (w : World) :
    Calls Tryd.prog 10 #[tab, tyV (.int n b c) none] w (IntRes n w) := by
  rw [tyV_int]
  go_enter Tryd.func10, Tryd.ntmps10
  go_wp2_with fail
  go_ret
  exact ⟨rfl, (Below.refl _ _).alloc (Nat.le_refl _) _⟩

set_option maxHeartbeats 1000000 in
theorem find_empty (tb : Nat) (nm : ByteArray) (w : World) (hc : w.cell? ⟨tb, 0, none⟩ = some (.slice none 0 0)) :
    Calls Tryd.prog 14 #[.pointer (some ⟨tb, 0, none⟩), .string nm] w fun e w' => e = .returned (.tuple #[.int .i64 0, .bool false]) ∧ w = w' := by
  go_enter Tryd.func14, Tryd.ntmps14
  go_wp2_with fail
  refine wp_loop_rounds 1 ?_; rw [rounds_succ]
  go_wp2
  go_ret2
  exact ⟨rfl, rfl⟩

/-- One field's eleven cells. -/
structure FCells (w : World) (b o : Nat) (nm : ByteArray) (n at_ : Int) : Prop where
  s : w.cell? ⟨b, o, none⟩ = some (.string nm)
  c0 : w.cell? ⟨b, o + 1, none⟩ = some (.int .i64 1)
  c1 : w.cell? ⟨b, o + 2, none⟩ = some (.int .i64 n)
  c2 : w.cell? ⟨b, o + 3, none⟩ = some (.bool true)
  c3 : w.cell? ⟨b, o + 4, none⟩ = some (.bool false)
  c4 : w.cell? ⟨b, o + 5, none⟩ = some (.pointer none)
  c5 : w.cell? ⟨b, o + 6, none⟩ = some (.int .i64 0)
  c6 : w.cell? ⟨b, o + 7, none⟩ = some (.int .i64 0)
  c7 : w.cell? ⟨b, o + 8, none⟩ = some (.slice none 0 0)
  c8 : w.cell? ⟨b, o + 9, none⟩ = some (.pointer none)
  a : w.cell? ⟨b, o + 10, none⟩ = some (.int .i64 at_)

theorem FCells.below {w w' : World} {b o : Nat} {nm : ByteArray} {n at_ : Int} {lim : Nat} (h : FCells w b o nm n at_) (hb : Below lim w w') (hl : b < lim) : FCells w' b o nm n at_ := by
  obtain ⟨h0, h1, h2, h3, h4, h5, h6, h7, h8, h9, h10⟩ := h
  constructor <;> (rw [hb.cell (by exact hl)]; assumption)

def fldV (nm : ByteArray) (n at_ : Int) : Value := .agg #[.string nm, .int .i64 1, .int .i64 n, .bool true, .bool false, .pointer none, .int .i64 0, .int .i64 0, .slice none 0 0, .pointer none, .int .i64 at_]
def fld0 : Value := .agg #[.string ⟨#[]⟩, .int .i64 0, .int .i64 0, .bool false, .bool false, .pointer none, .int .i64 0, .int .i64 0, .slice none 0 0, .pointer none, .int .i64 0]

def FRow (w : World) (g n : Nat) (NM : Nat → ByteArray) (SZ AT : Nat → Int) : Prop := ∀ k, k < n → FCells w g (k * 11) (NM k) (SZ k) (AT k)
theorem FRow.below {w w' : World} {g n : Nat} {NM : Nat → ByteArray} {SZ AT : Nat → Int} {lim : Nat} (h : FRow w g n NM SZ AT) (hb : Below lim w w') (hl : g < lim) : FRow w' g n NM SZ AT :=
  fun k hk => (h k hk).below hb hl

/-- A field's place that holds nothing yet. -/
structure RCells (w : World) (b : Nat) : Prop where
  s : w.cell? ⟨b, 0, none⟩ = some (.string ⟨#[]⟩)
  c0 : w.cell? ⟨b, 1, none⟩ = some (.int .i64 0)
  c1 : w.cell? ⟨b, 2, none⟩ = some (.int .i64 0)
  c2 : w.cell? ⟨b, 3, none⟩ = some (.bool false)
  c3 : w.cell? ⟨b, 4, none⟩ = some (.bool false)
  c4 : w.cell? ⟨b, 5, none⟩ = some (.pointer none)
  c5 : w.cell? ⟨b, 6, none⟩ = some (.int .i64 0)
  c6 : w.cell? ⟨b, 7, none⟩ = some (.int .i64 0)
  c7 : w.cell? ⟨b, 8, none⟩ = some (.slice none 0 0)
  c8 : w.cell? ⟨b, 9, none⟩ = some (.pointer none)
  a : w.cell? ⟨b, 10, none⟩ = some (.int .i64 0)
  fs : w.frozen? ⟨b, 0, none⟩ = false
  f0 : w.frozen? ⟨b, 1, none⟩ = false
  f1 : w.frozen? ⟨b, 2, none⟩ = false
  f2 : w.frozen? ⟨b, 3, none⟩ = false
  f3 : w.frozen? ⟨b, 4, none⟩ = false
  f4 : w.frozen? ⟨b, 5, none⟩ = false
  f5 : w.frozen? ⟨b, 6, none⟩ = false
  f6 : w.frozen? ⟨b, 7, none⟩ = false
  f7 : w.frozen? ⟨b, 8, none⟩ = false
  f8 : w.frozen? ⟨b, 9, none⟩ = false
  fa : w.frozen? ⟨b, 10, none⟩ = false

theorem RCells.below {w w' : World} {b : Nat} {lim : Nat} (h : RCells w b) (hb : Below lim w w') (hl : b < lim) : RCells w' b := by
  obtain ⟨h0, h1, h2, h3, h4, h5, h6, h7, h8, h9, h10, f0, f1, f2, f3, f4, f5, f6, f7, f8, f9, f10⟩ := h
  constructor <;> (first | rw [hb.cell (by exact hl)] | rw [hb.frozen (by exact hl)]) <;> assumption

def TupRes (v : Value) (w : World) (e : Ending) (w' : World) : Prop := e = .returned v ∧ Below w.heap.size w w'

set_option maxHeartbeats 1000000 in
theorem fieldOf_nil (nm : ByteArray) (w : World) :
    Calls Tryd.prog 33 #[.slice none 0 0, .string nm] w (TupRes (.tuple #[fld0, .bool false]) w) := by
  go_enter Tryd.func33, Tryd.ntmps33
  go_wp2_with fail
  refine wp_loop_rounds 1 ?_; rw [rounds_succ]
  go_wp2
  refine bodyPost_ret (v := .tuple #[fld0, .bool false]) ?_ rfl ⟨rfl, ?_⟩
  · unfold fld0; simp [results, Tryd.results33, go_sem]
  · have hbw := Below.refl w.heap.size w
    ((repeat (first | (with_reducible exact hbw) | (with_reducible apply Below.setCell) | (with_reducible apply Below.alloc))) <;> first | omega | (simp <;> omega))

set_option maxHeartbeats 2000000 in
theorem fieldOf_none (g c n : Nat) (hn : n ≤ 20) (NM : Nat → ByteArray) (SZ AT : Nat → Int) (nm : ByteArray) (w : World) (hg : g < w.heap.size) (hr : FRow w g n NM SZ AT)
    (hne : ∀ k, k < n → ((NM k).toList == nm.toList) = false) :
    Calls Tryd.prog 33 #[.slice (some ⟨g, 0, none⟩) n c, .string nm] w (TupRes (.tuple #[fld0, .bool false]) w) := by
  have HR := Lib.hid hr
  have HN := Lib.hid hne
  clear hr hne
  go_enter Tryd.func33, Tryd.ntmps33
  go_wp2_with fail
  generalize hW : w.alloc (.cells #[.string ⟨#[]⟩, .int .i64 0, .int .i64 0, .bool false, .bool false, .pointer none, .int .i64 0, .int .i64 0, .slice none 0 0, .pointer none, .int .i64 0] 45) = W
  have hB0 : Below w.heap.size w W := by rw [← hW]; exact (Below.refl _ _).alloc (Nat.le_refl _) _
  have hsW : W.heap.size = w.heap.size + 1 := by rw [← hW]; simp
  have HB0 := Lib.hid hB0
  have HSW := Lib.hid hsW
  have hrc : RCells W w.heap.size := by rw [← hW]; constructor <;> simp
  have HRC := Lib.hid hrc
  clear hB0 hsW hrc
  go_loopw [10] (fun vi wr => ∃ k : Nat, vi = .int .i64 k ∧ k ≤ n ∧ Below W.heap.size W wr) (fun vi _ => n - (intOf vi).toNat)
  case atStart => exact ⟨0, rfl, by omega, Below.refl _ _⟩
  case round =>
    obtain ⟨k, rfl, hk, hb⟩ := hrel
    have HB := Lib.hid hb
    by_cases hlt : k < n
    · obtain ⟨h0, h1, h2, h3, h4, h5, h6, h7, h8, h9, h10⟩ := ((HR.out k hlt).below HB0.out hg).below hb (by have := HSW.out; omega)
      have he := HN.out k hlt
      clear hb hW
      go_wp2
      go_roundw
      case rel => exact ⟨k + 1, by go_num, by omega, HB.out.alloc HB.out.size _⟩
      case measure => simp [intOf]; omega
    · obtain ⟨h0, h1, h2, h3, h4, h5, h6, h7, h8, h9, h10, f0, f1, f2, f3, f4, f5, f6, f7, f8, f9, f10⟩ := HRC.out.below hb (by have := HSW.out; omega)
      have hz : w.heap.size < wr.heap.size := by have := hb.size; have := HSW.out; omega
      have hbw := HB0.out.trans (hb.mono (by have := HSW.out; omega))
      have HBW := Lib.hid hbw
      clear hb hW hbw
      go_wp2
      have hbw := HBW.out
      refine bodyPost_ret (v := .tuple #[fld0, .bool false]) ?_ rfl ⟨rfl, ?_⟩
      · unfold fld0; simp [results, Tryd.results33, go_sem, h0, h1, h2, h3, h4, h5, h6, h7, h8, h9, h10]
      · ((repeat (first | (with_reducible exact hbw) | (with_reducible apply Below.setCell) | (with_reducible apply Below.alloc))) <;> first | omega | (simp <;> omega))
end Go.Proofs.YtoajcggiccfaiaaDoor
