import Derived.Test.YtoajcggiccfaiaaDoorCtBC
namespace Go.Proofs.YtoajcggiccfaiaaDoor
open Go Go.RowKit
set_option linter.unusedVariables false
set_option linter.unusedSimpArgs false

/-- A field's eleven cells, of any type. -/
structure GCells (w : World) (b o : Nat) (nm : ByteArray) (t : Ty) (el : Option Addr) (at_ : Int) : Prop where
  s : w.cell? ⟨b, o, none⟩ = some (.string nm)
  c0 : w.cell? ⟨b, o + 1, none⟩ = some (.int .i64 t.kind)
  c1 : w.cell? ⟨b, o + 2, none⟩ = some (.int .i64 t.size)
  c2 : w.cell? ⟨b, o + 3, none⟩ = some (.bool t.sg)
  c3 : w.cell? ⟨b, o + 4, none⟩ = some (.bool t.sc)
  c4 : w.cell? ⟨b, o + 5, none⟩ = some (.pointer el)
  c5 : w.cell? ⟨b, o + 6, none⟩ = some (.int .i64 t.len)
  c6 : w.cell? ⟨b, o + 7, none⟩ = some (.int .i64 t.num)
  c7 : w.cell? ⟨b, o + 8, none⟩ = some (.slice none 0 0)
  c8 : w.cell? ⟨b, o + 9, none⟩ = some (.pointer none)
  a : w.cell? ⟨b, o + 10, none⟩ = some (.int .i64 at_)
theorem GCells.below {w w' : World} {b o : Nat} {nm : ByteArray} {t : Ty} {el : Option Addr} {at_ : Int} {lim : Nat} (h : GCells w b o nm t el at_) (hb : Below lim w w') (hl : b < lim) : GCells w' b o nm t el at_ := by
  obtain ⟨h0, h1, h2, h3, h4, h5, h6, h7, h8, h9, h10⟩ := h
  constructor <;> (rw [hb.cell (by exact hl)]; assumption)
def fldT (nm : ByteArray) (t : Ty) (el : Option Addr) (at_ : Int) : Value := .agg #[.string nm, .int .i64 t.kind, .int .i64 t.size, .bool t.sg, .bool t.sc, .pointer el, .int .i64 t.len, .int .i64 t.num, .slice none 0 0, .pointer none, .int .i64 at_]
/-- A struct's fields, one behind the other. -/
def GRow (w : World) (g n : Nat) (NM : Nat → ByteArray) (TY : Nat → Ty) (EL : Nat → Option Addr) (AT : Nat → Int) : Prop := ∀ k, k < n → GCells w g (k * 11) (NM k) (TY k) (EL k) (AT k)
theorem GRow.below {w w' : World} {g n : Nat} {NM : Nat → ByteArray} {TY : Nat → Ty} {EL : Nat → Option Addr} {AT : Nat → Int} {lim : Nat} (h : GRow w g n NM TY EL AT) (hb : Below lim w w') (hl : g < lim) : GRow w' g n NM TY EL AT :=
  fun k hk => (h k hk).below hb hl

set_option maxHeartbeats 2000000 in
theorem fieldOfT_none (g c n : Nat) (hn : n ≤ 1000000) (NM : Nat → ByteArray) (TY : Nat → Ty) (EL : Nat → Option Addr) (AT : Nat → Int) (nm : ByteArray) (w : World) (hg : g < w.heap.size) (hr : GRow w g n NM TY EL AT)
    (hne : ∀ k, k < n → ((NM k).toList == nm.toList) = false) :
    Calls Tryd.prog 33 #[.slice (some ⟨g, 0, none⟩) n c, .string nm] w (TupRes (.tuple #[fld0, .bool false]) w) := by
  have HR := Lib.hid hr
  have HN := Lib.hid hne
  clear hr hne
  go_enter Tryd.func33, Tryd.ntmps33
  go_wp2_with fail
  generalize hW : w.alloc (.cells #[.string ⟨#[]⟩, .int .i64 0, .int .i64 0, .bool false, .bool false, .pointer none, .int .i64 0, .int .i64 0, .slice none 0 0, .pointer none, .int .i64 0] 45) = W
  have hB0 : Below w.heap.size w W := by rw [← hW]; exact (Below.refl _ _).alloc (Nat.le_refl _) _
  have hsW : W.heap.size = w.heap.size + 1 := by rw [← hW]; simp
  have HB0 := Lib.hid hB0
  have HSW := Lib.hid hsW
  have hrc : RCells W w.heap.size := by rw [← hW]; constructor <;> simp
  have HRC := Lib.hid hrc
  clear hB0 hsW hrc
  go_loopw [10] (fun vi wr => ∃ k : Nat, vi = .int .i64 k ∧ k ≤ n ∧ Below W.heap.size W wr) (fun vi _ => n - (intOf vi).toNat)
  case atStart => exact ⟨0, rfl, by omega, Below.refl _ _⟩
  case round =>
    obtain ⟨k, rfl, hk, hb⟩ := hrel
    have HB := Lib.hid hb
    by_cases hlt : k < n
    · obtain ⟨h0, h1, h2, h3, h4, h5, h6, h7, h8, h9, h10⟩ := ((HR.out k hlt).below HB0.out hg).below hb (by have := HSW.out; omega)
      have he := HN.out k hlt
      clear hb hW
      go_wp2
      go_roundw
      case rel => exact ⟨k + 1, by go_num, by omega, HB.out.alloc HB.out.size _⟩
      case measure => simp [intOf]; omega
    · obtain ⟨h0, h1, h2, h3, h4, h5, h6, h7, h8, h9, h10, f0, f1, f2, f3, f4, f5, f6, f7, f8, f9, f10⟩ := HRC.out.below hb (by have := HSW.out; omega)
      have hz : w.heap.size < wr.heap.size := by have := hb.size; have := HSW.out; omega
      have hbw := HB0.out.trans (hb.mono (by have := HSW.out; omega))
      have HBW := Lib.hid hbw
      clear hb hW hbw
      go_wp2
      have hbw := HBW.out
      refine bodyPost_ret (v := .tuple #[fld0, .bool false]) ?_ rfl ⟨rfl, ?_⟩
      · unfold fld0; simp [results, Tryd.results33, go_sem, h0, h1, h2, h3, h4, h5, h6, h7, h8, h9, h10]
      · ((repeat (first | (with_reducible exact hbw) | (with_reducible apply Below.setCell) | (with_reducible apply Below.alloc))) <;> first | omega | (simp <;> omega))

set_option maxHeartbeats 2000000 in
theorem fieldOfT_found (g c n m : Nat) (hn : n ≤ 1000000) (hm : m < n) (NM : Nat → ByteArray) (TY : Nat → Ty) (EL : Nat → Option Addr) (AT : Nat → Int) (w : World) (hg : g < w.heap.size) (hr : GRow w g n NM TY EL AT)
    (hne : ∀ k, k < m → ((NM k).toList == (NM m).toList) = false) :
    Calls Tryd.prog 33 #[.slice (some ⟨g, 0, none⟩) n c, .string (NM m)] w (TupRes (.tuple #[fldT (NM m) (TY m) (EL m) (AT m), .bool true]) w) := by
  have HR := Lib.hid hr
  have HN := Lib.hid hne
  clear hr hne
  go_enter Tryd.func33, Tryd.ntmps33
  go_wp2_with fail
  generalize hW : w.alloc (.cells #[.string ⟨#[]⟩, .int .i64 0, .int .i64 0, .bool false, .bool false, .pointer none, .int .i64 0, .int .i64 0, .slice none 0 0, .pointer none, .int .i64 0] 45) = W
  have hB0 : Below w.heap.size w W := by rw [← hW]; exact (Below.refl _ _).alloc (Nat.le_refl _) _
  have hsW : W.heap.size = w.heap.size + 1 := by rw [← hW]; simp
  have HB0 := Lib.hid hB0
  have HSW := Lib.hid hsW
  have hrc : RCells W w.heap.size := by rw [← hW]; constructor <;> simp
  have HRC := Lib.hid hrc
  clear hB0 hsW hrc
  go_loopw [10] (fun vi wr => ∃ k : Nat, vi = .int .i64 k ∧ k ≤ m ∧ Below W.heap.size W wr) (fun vi _ => n - (intOf vi).toNat)
  case atStart => exact ⟨0, rfl, by omega, Below.refl _ _⟩
  case round =>
    obtain ⟨k, rfl, hk, hb⟩ := hrel
    have HB := Lib.hid hb
    have hkn : k < n := by omega
    by_cases hlt : k < m
    · obtain ⟨h0, h1, h2, h3, h4, h5, h6, h7, h8, h9, h10⟩ := ((HR.out k hkn).below HB0.out hg).below hb (by have := HSW.out; omega)
      have he := HN.out k hlt
      clear hb hW
      go_wp2
      go_roundw
      case rel => exact ⟨k + 1, by go_num, by omega, HB.out.alloc HB.out.size _⟩
      case measure => simp [intOf]; omega
    · obtain rfl : k = m := by omega
      obtain ⟨q0, q1, q2, q3, q4, q5, q6, q7, q8, q9, q10⟩ := ((HR.out k hkn).below HB0.out hg).below hb (by have := HSW.out; omega)
      obtain ⟨h0, h1, h2, h3, h4, h5, h6, h7, h8, h9, h10, f0, f1, f2, f3, f4, f5, f6, f7, f8, f9, f10⟩ := HRC.out.below hb (by have := HSW.out; omega)
      have hz : w.heap.size < wr.heap.size := by have := hb.size; have := HSW.out; omega
      have hbw := HB0.out.trans (hb.mono (by have := HSW.out; omega))
      have HBW := Lib.hid hbw
      clear hb hW hbw
      go_wp2
      have hbw := HBW.out
      refine bodyPost_ret (v := .tuple #[fldT (NM k) (TY k) (EL k) (AT k), .bool true]) ?_ rfl ⟨rfl, ?_⟩
      · unfold fldT; simp [results, Tryd.results33, go_sem, h0, h1, h2, h3, h4, h5, h6, h7, h8, h9, h10, hz]
      · ((repeat (first | (with_reducible exact hbw) | (with_reducible apply Below.setCell) | (with_reducible apply Below.alloc))) <;> first | omega | (simp <;> omega))
end Go.Proofs.YtoajcggiccfaiaaDoor
