import Derived.Test.YtoajcggiccfaiaaDoorCtX
import Derived.Deep.Slices
import Derived.Deep.Fields
import Derived.ChangeSame
import Derived.Lib.SmallJoins
import Derived.OpenShut
import Derived.ProofKit
import Derived.LaidMore
import Derived.MakeChecks
import Derived.Stop.LaidErr
import Derived.Deep.DeepHandedRow
namespace Go.Proofs.YtoajcggiccfaiaaDoor
open Go Go.ChangeShapes Go.WideShapes Go.Deep Go.Joins Go.RowKit Go.ChangeAt

set_option maxRecDepth 100000 in
theorem cell_spot {w : World} {a : Addr} {v : Value} (h : w.cell? a = some v) : a.spot = none := by
  unfold World.cell? at h
  split at h
  · cases hs : a.spot with
    | none => rfl
    | some x => rw [hs] at h; simp at h
  · cases h
set_option maxRecDepth 100000 in
theorem cell_block {w : World} {a : Addr} {v : Value} (h : w.cell? a = some v) : a.block < w.heap.size := World.block_lt_of_cell? w a h

set_option maxRecDepth 100000 in
theorem cellsA2 : Tryd.prog.cellsOf 69 = 2 := by kernel_rfl
set_option maxRecDepth 100000 in
theorem cellsI : Tryd.prog.cellsOf 3 = 1 := by kernel_rfl
set_option maxRecDepth 100000 in
theorem own : ownKnob Tryd.prog.godebug = none := by kernel_rfl
set_option maxRecDepth 100000 in
theorem laidOut : laidOutB Tryd.prog = true := by kernel_rfl

set_option maxRecDepth 100000 in
/-- A shape that came in, read as the walk wants it. -/
theorem open_shape {H : Type} {enc : TypeId × Value → H} {W : World} {base : Nat} {spare : Nat → Bool} {held : Bool} {r : Reach} {b0 : Nat} {v : Value} {d : DataW H} {p : List MemPlace}
    (hv : Value.okWide Tryd.prog W r b0 25 v) (h : DataW.Trod enc Tryd.prog W base spare held 25 v d p) :
    ∃ (n : Int) (a : Option Addr) (len cap : Nat), v = .agg #[.int .i64 n, .slice a len cap] ∧ len ≤ 9223372036854775807 ∧ Steps W a len ∧ (0 < len → ∀ x, a = some x → x.block < W.heap.size) := by
  obtain ⟨v0, v1, y0, y1, n, rfl, _, _, h0, h1⟩ := open_agg2 Tryd.underlying25 (by kernel_rfl) (by kernel_rfl) hv h
  obtain ⟨n0, hn0, _⟩ := DataW.trod_int Tryd.underlying3 h0
  obtain rfl : v0 = .int .i64 n0 := by simpa using hn0
  rcases open_slice Tryd.underlying23 h1 with ⟨hcs, _⟩ | ⟨a, len, cap, m, n', D, Pl, hcs, hb, hl, hm, hmm, hx, hi⟩
  · obtain rfl : v1 = .slice none 0 0 := by simpa using hcs
    exact ⟨n0, none, 0, 0, rfl, by omega, .inl rfl, fun h => by omega⟩
  · obtain rfl : v1 = .slice (some a) len cap := by simpa using hcs
    unfold maxLen at hm
    have hlm : len ≤ m := by rw [hmm]; split <;> omega
    have key : ∀ i, i < len → ∃ p q : Int, W.cell? (a.add (i * 2)) = some (.int .i64 p) ∧ W.cell? ((a.add (i * 2)).add 1) = some (.int .i64 q) := by
      intro i him
      obtain ⟨cs', hc, ht⟩ := hi i (by omega)
      rw [cellsA2] at hc
      obtain ⟨_, hlen, hat⟩ := World.cells?_some hc
      obtain ⟨xs, mm, _, _, _, hxl, hg⟩ := DataW.trod_array Tryd.underlying69 ht
      rw [cellsI] at hg
      match cs', hlen with
      | [c0, c1], _ =>
        have g0 := hg 0 (by omega)
        have g1 := hg 1 (by omega)
        rw [List.getElem?_eq_getElem (by omega)] at g0 g1
        obtain ⟨p, hp, _⟩ := DataW.trod_int Tryd.underlying3 g0
        obtain ⟨q, hq, _⟩ := DataW.trod_int Tryd.underlying3 g1
        have a0 := hat 0 (by omega)
        have a1 := hat 1 (by omega)
        refine ⟨p, q, ?_, ?_⟩
        · rw [show a.add (i * 2) = (a.add (i * 2)).add 0 from by simp [Addr.add], a0]; simpa using hp
        · rw [a1]; simpa using hq
    refine ⟨n0, some a, len, cap, rfl, by omega, ?_, ?_⟩
    · by_cases h0' : len = 0
      · exact .inl h0'
      · obtain ⟨p0, q0, k0, _⟩ := key 0 (by omega)
        have hsp : a.spot = none := by
          have : a.add (0 * 2) = a := by simp [Addr.add]
          rw [this] at k0; exact cell_spot k0
        obtain ⟨ab, ao, asp⟩ := a
        obtain rfl : asp = none := hsp
        refine .inr ⟨ab, ao, rfl, fun i hi' => ?_⟩
        obtain ⟨p, q, k1, k2⟩ := key i hi'
        refine ⟨p, q, ?_, ?_⟩
        · by_cases hz : i * 2 = 0
          · rw [hz] at k1 ⊢; simpa [Addr.add] using k1
          · simpa [Addr.add, hz] using k1
        · by_cases hz : i * 2 = 0
          · rw [hz] at k2 ⊢; simpa [Addr.add] using k2
          · simpa [Addr.add, hz] using k2
    · intro hpos x hxx
      obtain rfl : a = x := by simpa using hxx
      obtain ⟨p0, q0, k0, _⟩ := key 0 hpos
      have : a.add (0 * 2) = a := by simp [Addr.add]
      rw [this] at k0
      exact cell_block k0
end Go.Proofs.YtoajcggiccfaiaaDoor
