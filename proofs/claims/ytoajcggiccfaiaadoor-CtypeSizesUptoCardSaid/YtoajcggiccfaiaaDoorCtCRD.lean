import Derived.Test.YtoajcggiccfaiaaDoorCtCP
import Derived.Test.YtoajcggiccfaiaaDoorCtCQ
import Derived.Test.YtoajcggiccfaiaaDoorCtX
import Derived.Test.YtoajcggiccfaiaaDoorCtCT
namespace Go.Proofs.YtoajcggiccfaiaaDoor
open Go Go.RowKit
set_option linter.unusedVariables false
set_option linter.unusedSimpArgs false

def NamesIn (w : World) (a : Option Addr) (n : Nat) : Prop := n = 0 ∨ ∃ b off : Nat, a = some ⟨b, off, none⟩ ∧ ∀ i, i < n → ∃ s : ByteArray, w.cell? ⟨b, off + i, none⟩ = some (.string s)
def ShapesIn (w : World) (a : Option Addr) (n : Nat) : Prop := n = 0 ∨ ∃ b off : Nat, a = some ⟨b, off, none⟩ ∧ ∀ i, i < n → ∃ (k : Int) (sa : Option Addr) (sl sc : Nat), w.cell? ⟨b, off + i * 2, none⟩ = some (.int .i64 k) ∧ w.cell? ⟨b, off + i * 2 + 1, none⟩ = some (.slice sa sl sc) ∧ sl ≤ 9223372036854775807 ∧ Steps w sa sl ∧ (0 < sl → ∀ x, sa = some x → x.block < w.heap.size)
/-- The records that came in. -/
def RecsIn (w : World) (a : Option Addr) (len : Nat) : Prop := len = 0 ∨ ∃ b off : Nat, a = some ⟨b, off, none⟩ ∧ ∀ i, i < len → ∃ (nm : ByteArray) (va : Option Addr) (vn vc : Nat) (sa : Option Addr) (sn sc : Nat), w.cell? ⟨b, off + i * 3, none⟩ = some (.string nm) ∧ w.cell? ⟨b, off + i * 3 + 1, none⟩ = some (.slice va vn vc) ∧ w.cell? ⟨b, off + i * 3 + 2, none⟩ = some (.slice sa sn sc) ∧ vn ≤ 9223372036854775807 ∧ sn ≤ 9223372036854775807 ∧ nm.size ≤ 1048576 ∧ NamesIn w va vn ∧ ShapesIn w sa sn
theorem NamesIn.below {w w' : World} {a : Option Addr} {n : Nat} (h : NamesIn w a n) (hb : Below w.heap.size w w') : NamesIn w' a n := by
  rcases h with h | ⟨b, off, ha, h⟩
  · exact Or.inl h
  · exact Or.inr ⟨b, off, ha, fun i hi => by
      obtain ⟨s, hs⟩ := h i hi
      exact ⟨s, by rw [hb.cell (World.block_lt_of_cell? w _ hs)]; exact hs⟩⟩
theorem ShapesIn.below {w w' : World} {a : Option Addr} {n : Nat} (h : ShapesIn w a n) (hb : Below w.heap.size w w') : ShapesIn w' a n := by
  rcases h with h | ⟨b, off, ha, h⟩
  · exact Or.inl h
  · refine Or.inr ⟨b, off, ha, fun i hi => ?_⟩
    obtain ⟨k, sa, sl, sc, h1, h2, h3, h4, h5⟩ := h i hi
    exact ⟨k, sa, sl, sc, by rw [hb.cell (World.block_lt_of_cell? w _ h1)]; exact h1, by rw [hb.cell (World.block_lt_of_cell? w _ h2)]; exact h2, h3, h4.below h5 hb, fun hp x hx => Nat.lt_of_lt_of_le (h5 hp x hx) hb.size⟩

/-- What the law has built so far. -/
def Built (w : World) (tb n : Nat) (lv : Value) : Prop :=
  ∃ (va : Value) (lb lc : Nat) (la : Option Addr) (SN : Nat → ByteArray) (CT : Nat → Nat) (NM : Nat → Nat → ByteArray) (TY : Nat → Nat → Ty) (SZ AL : Nat → Int) (FA : Nat → Option Addr) (FN FC GP : Nat → Nat) (ELP : Nat → Nat → Option Addr) (RV : Nat → Option Addr × Nat × Nat) (G CC : Nat → Nat) (ELR : Nat → Nat → Option Addr),
    lv = .slice la n lc ∧ (n = 0 → la = none ∧ lc = 0) ∧ (∀ k, k < n → (SN k).size ≤ 1048576) ∧ Both w tb n va lb lc la SN CT NM TY SZ AL FA FN FC GP ELP RV G CC ELR
theorem Built.below {w w' : World} {tb n : Nat} {lv : Value} (h : Built w tb n lv) (hb : Below w.heap.size w w') : Built w' tb n lv := by
  obtain ⟨va, lb, lc, la, SN, CT, NM, TY, SZ, AL, FA, FN, FC, GP, ELP, RV, G, CC, ELR, h1, h2, h3, h4⟩ := h
  exact ⟨va, lb, lc, la, SN, CT, NM, TY, SZ, AL, FA, FN, FC, GP, ELP, RV, G, CC, ELR, h1, h2, h3, h4.below hb⟩
theorem built_none {w : World} {tb : Nat} (h1 : w.cell? ⟨tb, 0, none⟩ = some (.slice none 0 0)) (h2 : w.frozen? ⟨tb, 0, none⟩ = false) : Built w tb 0 (.slice none 0 0) :=
  ⟨.slice none 0 0, 0, 0, none, fun _ => ⟨#[]⟩, fun _ => 0, fun _ _ => ⟨#[]⟩, fun _ _ => .void, fun _ => 0, fun _ => 1, fun _ => none, fun _ => 0, fun _ => 0, fun _ => 0, fun _ _ => none, fun _ => (none, 0, 0), fun _ => 0, fun _ => 0, fun _ _ => none, rfl, fun _ => ⟨rfl, rfl⟩, fun k h => by omega,
    ⟨⟨h1, h2, World.ownsRow_nil _ _ _ _⟩, ⟨fun k h => by omega, fun k h => by omega, fun k h => by omega⟩, ⟨fun h => by omega, fun h => by omega, fun k h => by omega, fun k h => by omega, fun k h => by omega, fun k h => by omega⟩,
      ⟨by omega, fun k h => by omega, fun k h => by omega, fun k h => by omega, fun k h => by omega, fun k h => by omega⟩, fun k h => by omega⟩⟩
def BuildRes (tb : Nat) (w : World) (e : Ending) (w' : World) : Prop :=
  ∃ lv ok, e = .returned (.tuple #[.pointer (some ⟨tb, 0, none⟩), lv, .bool ok, .bool true]) ∧ Below w.heap.size w w' ∧ (ok = true → ∃ n, Built w' tb n lv)
/-- Behind a field's two appends. -/
def RowGo (Y : World) (R : Nat) (nm : ByteArray) (k : Nat) (vF : Value) (NM : Nat → ByteArray) (TY : Nat → Ty) (EL : Nat → Option Addr) (wx : World) : Prop :=
  ∃ vN vT, RowSt wx R nm vN vT vN (k + 1) vT (k + 1) vF (k + 1) (k + 1) NM TY EL ∧ Below R Y wx ∧ R < wx.heap.size
/-- A round's state behind its fields' growing. -/
def RowEnd (Z : World) (R k : Nat) (nm : ByteArray) (vF : Value) (m : Nat) (wx : World) : Prop :=
  ∃ (vN vT : Value) (NM : Nat → ByteArray) (TY : Nat → Ty) (EL : Nat → Option Addr), RowSt wx R nm vN vT vN k vT k vF m k NM TY EL ∧ (∀ j, j < k → OkT (TY j)) ∧ Below R Z wx ∧ R < wx.heap.size ∧ (k = 0 → vN = .slice none 0 0 ∧ vT = .slice none 0 0 ∧ vF = .slice none 0 0)
end Go.Proofs.YtoajcggiccfaiaaDoor
