import Derived.Test.YtoajcggiccfaiaaDoorCtQ
import Derived.Test.YtoajcggiccfaiaaDoorCtF
import Derived.StillTailTactics
namespace Go.Proofs.YtoajcggiccfaiaaDoor
open Go Go.RowKit
theorem Steps.below {w w' : World} {a : Option Addr} {len : Nat} (h : Steps w a len) (hl : 0 < len → ∀ x, a = some x → x.block < w.heap.size) (hb : Below w.heap.size w w') : Steps w' a len := by
  rcases h with h | ⟨b, off, rfl, h⟩
  · exact .inl h
  · refine .inr ⟨b, off, rfl, fun i hi => ?_⟩
    obtain ⟨p, q, h1, h2⟩ := h i hi
    have hlt := hl (by omega) _ rfl
    exact ⟨p, q, by rw [hb.cell (by exact hlt)]; exact h1, by rw [hb.cell (by exact hlt)]; exact h2⟩
end Go.Proofs.YtoajcggiccfaiaaDoor
