import Derived.Test.YtoajcggiccfaiaaDoorDsA
import Derived.Test.YtoajcggiccfaiaaDoorCtBB
import Derived.Test.YtoajcggiccfaiaaDoorCtL
import Derived.Test.YtoajcggiccfaiaaDoorCtCG
import Derived.Test.YtoajcggiccfaiaaDoorShelf
namespace Go.Proofs.YtoajcggiccfaiaaDoor
open Go Go.RowKit
set_option linter.unusedVariables false
set_option linter.unusedSimpArgs false

theorem IsBuilder_below {T e : TypeId} {b : Nat} {bs : List Value} {w w' : World} (h : Lib.IsBuilder T e b b bs w) (hb : Below w.heap.size w w') : Lib.IsBuilder T e b b bs w' := by
  have key : ∀ p, Lib.BuilderAt T e b b p bs w → Lib.BuilderAt T e b b p bs w' := fun p h => by
    have hl := h.lt
    obtain ⟨h1, v, h2, h3, h4⟩ := h
    exact ⟨h1, v, by rw [hb.block b hl]; exact h2, ownsRow_below h3 hb, h4⟩
  exact h.imp (key _) (key _)
theorem Bld.below {b : Nat} {l : List UInt8} {w w' : World} (h : Bld b l w) (hb : Below w.heap.size w w') : Bld b l w' := IsBuilder_below h hb
theorem kept_below {b : Nat} {w w' : World} (hb : Below w.heap.size w w') : Kept b w w' := fun k o h _ _ => by
  have hl : k < w.heap.size := by
    rcases Nat.lt_or_ge k w.heap.size with h' | h'
    · exact h'
    · rw [Array.getElem?_eq_none h'] at h; cases h
  rw [hb.block k hl]; exact h

/-- The text of an int's type. -/
def intL (k : Int) (sg sc : Bool) : List UInt8 :=
  (if sc then [115, 101, 99, 114, 101, 116, 32] else []) ++ ((if sg then [] else [117, 110, 115, 105, 103, 110, 101, 100, 32]) ++ (if k = 1 then [99, 104, 97, 114] else if k = 2 then [115, 104, 111, 114, 116] else if k = 4 then [105, 110, 116] else [108, 111, 110, 103]))
theorem intL_len (k : Int) (sg sc : Bool) : (intL k sg sc).length ≤ 30 := by
  unfold intL
  cases sg <;> cases sc <;> (repeat' split) <;> simp

def StrRes (l : List UInt8) (w : World) (e : Ending) (w' : World) : Prop := e = .returned (.string ⟨l.toArray⟩) ∧ Below w.heap.size w w'

set_option maxRecDepth 100000 in
set_option maxHeartbeats 4000000 in
theorem intText_any (k : Int) (sg sc : Bool) (w : World) :
    Calls Tryd.prog 40 #[tyV (.int k sg sc) none] w (StrRes (intL k sg sc) w) := by
  rw [show tyV (.int k sg sc) none = .agg #[.int .i64 1, .int .i64 k, .bool sg, .bool sc, .pointer none, .int .i64 0, .int .i64 0, .slice none 0 0, .pointer none] from rfl]
  by_cases h1 : k = 1
  · subst h1
    cases sg <;> cases sc
    all_goals
      go_enter Tryd.func40, Tryd.ntmps40
      go_wp2_with fail
      go_ret
      exact ⟨by rfl, (Below.refl _ _).alloc (Nat.le_refl _) _⟩
  by_cases h2 : k = 2
  · subst h2
    cases sg <;> cases sc
    all_goals
      go_enter Tryd.func40, Tryd.ntmps40
      go_wp2_with fail
      go_ret
      exact ⟨by rfl, (Below.refl _ _).alloc (Nat.le_refl _) _⟩
  by_cases h4 : k = 4
  · subst h4
    cases sg <;> cases sc
    all_goals
      go_enter Tryd.func40, Tryd.ntmps40
      go_wp2_with fail
      go_ret
      exact ⟨by rfl, (Below.refl _ _).alloc (Nat.le_refl _) _⟩
  have HI : Hid (∀ sg sc, intL k sg sc = intL 8 sg sc) := Lib.hid (fun sg sc => by unfold intL; rw [if_neg h1, if_neg h2, if_neg h4]; rfl)
  cases sg <;> cases sc
  all_goals
    go_enter Tryd.func40, Tryd.ntmps40
    go_wp2_with fail
    go_ret
    exact ⟨by rw [HI.out]; rfl, (Below.refl _ _).alloc (Nat.le_refl _) _⟩
end Go.Proofs.YtoajcggiccfaiaaDoor
