import Derived.Test.YtdkhanjfncbfnaaOsLN
import Derived.Test.YtdkhanjfncbfnaaOsP
import Derived.Deep.Slices
import Derived.Deep.Fields
import Derived.ChangeSame
import Derived.Lib.SmallJoins
import Derived.OpenShut
import Derived.ProofKit
import Derived.LaidMore
import Derived.MakeChecks
import Derived.Stop.LaidErr
import Derived.Deep.DeepHandedRow
import Derived.Deep.Strs
import Derived.SliceStrings
namespace Go.Proofs.Ytdkhanjfncbfnaa
open Go Go.ChangeShapes Go.WideShapes Go.Deep Go.Joins Go.RowKit Go.ChangeAt
set_option linter.unusedVariables false
set_option linter.unusedSimpArgs false

theorem Lcell_spot {w : World} {a : Addr} {v : Value} (h : w.cell? a = some v) : a.spot = none := by
  unfold World.cell? at h
  split at h
  · cases hs : a.spot with
    | none => rfl
    | some x => rw [hs] at h; simp at h
  · cases h
theorem Lcell_block {w : World} {a : Addr} {v : Value} (h : w.cell? a = some v) : a.block < w.heap.size := World.block_lt_of_cell? w a h

theorem LcellsA2 : Try.prog.cellsOf 105 = 2 := by kernel_rfl
theorem LcellsI : Try.prog.cellsOf 3 = 1 := by kernel_rfl
set_option maxRecDepth 100000 in
theorem open_shape {H : Type} {enc : TypeId × Value → H} {W : World} {base : Nat} {spare : Nat → Bool} {held : Bool} {r : Reach} {b0 : Nat} {v : Value} {d : DataW H} {p : List MemPlace}
    (hv : Value.okWide Try.prog W r b0 44 v) (h : DataW.Trod enc Try.prog W base spare held 44 v d p) :
    ∃ (n : Int) (a : Option Addr) (len cap : Nat), v = .agg #[.int .i64 n, .slice a len cap] ∧ len ≤ 9223372036854775807 ∧ Steps W a len ∧ (0 < len → ∀ x, a = some x → x.block < W.heap.size) := by
  obtain ⟨v0, v1, y0, y1, n, rfl, _, _, h0, h1⟩ := open_agg2 Try.underlying44 (by kernel_rfl) (by kernel_rfl) hv h
  obtain ⟨n0, hn0, _⟩ := DataW.trod_int Try.underlying3 h0
  obtain rfl : v0 = .int .i64 n0 := by simpa using hn0
  rcases open_slice Try.underlying42 h1 with ⟨hcs, _⟩ | ⟨a, len, cap, m, n', D, Pl, hcs, hb, hl, hm, hmm, hx, hi⟩
  · obtain rfl : v1 = .slice none 0 0 := by simpa using hcs
    exact ⟨n0, none, 0, 0, rfl, by omega, .inl rfl, fun h => by omega⟩
  · obtain rfl : v1 = .slice (some a) len cap := by simpa using hcs
    unfold maxLen at hm
    have hlm : len ≤ m := by rw [hmm]; split <;> omega
    have key : ∀ i, i < len → ∃ p q : Int, W.cell? (a.add (i * 2)) = some (.int .i64 p) ∧ W.cell? ((a.add (i * 2)).add 1) = some (.int .i64 q) := by
      intro i him
      obtain ⟨cs', hc, ht⟩ := hi i (by omega)
      rw [LcellsA2] at hc
      obtain ⟨_, hlen, hat⟩ := World.cells?_some hc
      obtain ⟨xs, mm, _, _, _, hxl, hg⟩ := DataW.trod_array Try.underlying105 ht
      rw [LcellsI] at hg
      match cs', hlen with
      | [c0, c1], _ =>
        have g0 := hg 0 (by omega)
        have g1 := hg 1 (by omega)
        rw [List.getElem?_eq_getElem (by omega)] at g0 g1
        obtain ⟨p, hp, _⟩ := DataW.trod_int Try.underlying3 g0
        obtain ⟨q, hq, _⟩ := DataW.trod_int Try.underlying3 g1
        have a0 := hat 0 (by omega)
        have a1 := hat 1 (by omega)
        refine ⟨p, q, ?_, ?_⟩
        · rw [show a.add (i * 2) = (a.add (i * 2)).add 0 from by simp [Addr.add], a0]; simpa using hp
        · rw [a1]; simpa using hq
    refine ⟨n0, some a, len, cap, rfl, by omega, ?_, ?_⟩
    · by_cases h0' : len = 0
      · exact .inl h0'
      · obtain ⟨p0, q0, k0, _⟩ := key 0 (by omega)
        have hsp : a.spot = none := by
          have : a.add (0 * 2) = a := by simp [Addr.add]
          rw [this] at k0; exact Lcell_spot k0
        obtain ⟨ab, ao, asp⟩ := a
        obtain rfl : asp = none := hsp
        refine .inr ⟨ab, ao, rfl, fun i hi' => ?_⟩
        obtain ⟨p, q, k1, k2⟩ := key i hi'
        refine ⟨p, q, ?_, ?_⟩
        · by_cases hz : i * 2 = 0
          · rw [hz] at k1 ⊢; simpa [Addr.add] using k1
          · simpa [Addr.add, hz] using k1
        · by_cases hz : i * 2 = 0
          · rw [hz] at k2 ⊢; simpa [Addr.add] using k2
          · simpa [Addr.add, hz] using k2
    · intro hpos x hxx
      obtain rfl : a = x := by simpa using hxx
      obtain ⟨p0, q0, k0, _⟩ := key 0 hpos
      have : a.add (0 * 2) = a := by simp [Addr.add]
      rw [this] at k0
      exact Lcell_block k0
theorem Ladd_none (b off k : Nat) : (⟨b, off, none⟩ : Addr).add k = ⟨b, off + k, none⟩ := by unfold Addr.add; split <;> simp_all
theorem Ladd_zero (a : Addr) : a.add 0 = a := by simp [Addr.add]
theorem cellsS : Try.prog.cellsOf 9 = 1 := by kernel_rfl
theorem cellsSh : Try.prog.cellsOf 44 = 2 := by kernel_rfl
theorem cellsRc : Try.prog.cellsOf 52 = 3 := by kernel_rfl
theorem cellsNs : Try.prog.cellsOf 49 = 1 := by kernel_rfl
theorem cellsSs : Try.prog.cellsOf 50 = 1 := by kernel_rfl
theorem cellsSt : Try.prog.cellsOf 42 = 1 := by kernel_rfl

section
variable {H : Type} {enc : TypeId × Value → H} {W : World} {base : Nat} {spare : Nat → Bool} {held : Bool}
theorem names_in {fuel : Nat} {c : Value} {x : DataW H × List MemPlace} (h : DataW.trod enc Try.prog W base spare held fuel 49 [c] = some x) :
    ∃ va vn vc, c = .slice va vn vc ∧ vn ≤ 9223372036854775807 ∧ NamesIn W va vn := by
  rcases open_strings Try.underlying49 Try.underlying9 cellsS h with ⟨hcs, _⟩ | ⟨a, len, cap, ss, hcs, _, hl, hm, hss, _, hc, _⟩
  · obtain rfl : c = .slice none 0 0 := by simpa using hcs
    exact ⟨none, 0, 0, rfl, by omega, Or.inl rfl⟩
  · obtain rfl : c = .slice (some a) len cap := by simpa using hcs
    unfold maxLen at hm
    have hlm : len ≤ ss.length := by rw [hss]; split <;> omega
    refine ⟨some a, len, cap, rfl, by omega, ?_⟩
    rcases Nat.eq_zero_or_pos len with h0 | h0
    · exact Or.inl h0
    · have c0 := hc 0 (by omega)
      rw [Ladd_zero] at c0
      obtain ⟨b, o, sp⟩ := a
      obtain rfl : sp = none := Lcell_spot c0
      refine Or.inr ⟨b, o, rfl, fun i hi => ?_⟩
      have := hc i (by omega)
      rw [Ladd_none] at this
      exact ⟨_, this⟩

theorem shape_in {fuel : Nat} {c0 c1 : Value} {x : DataW H × List MemPlace} (h : DataW.trod enc Try.prog W base spare held fuel 44 [c0, c1] = some x) :
    ∃ (n : Int) (a : Option Addr) (len cap : Nat), c0 = .int .i64 n ∧ c1 = .slice a len cap ∧ len ≤ 9223372036854775807 ∧ Steps W a len ∧ (0 < len → ∀ x, a = some x → x.block < W.heap.size) := by
  obtain ⟨y0, y1, n, rfl, _, h0, h1⟩ := trod_struct2 Try.underlying44 h
  have h0' : DataW.trod enc Try.prog W base spare held n 3 [c0] = some y0 := by simpa [LcellsI] using h0
  have h1' : DataW.trod enc Try.prog W base spare held n 42 [c1] = some y1 := by simpa [cellsSt] using h1
  obtain ⟨n0, hn0, _⟩ := DataW.trod_int Try.underlying3 h0'
  obtain rfl : c0 = .int .i64 n0 := by simpa using hn0
  rcases open_slice Try.underlying42 h1' with ⟨hcs, _⟩ | ⟨a, len, cap, m, n', D, Pl, hcs, hb, hl, hm, hmm, hx, hi⟩
  · obtain rfl : c1 = .slice none 0 0 := by simpa using hcs
    exact ⟨n0, none, 0, 0, rfl, rfl, by omega, .inl rfl, fun h => by omega⟩
  · obtain rfl : c1 = .slice (some a) len cap := by simpa using hcs
    unfold maxLen at hm
    have hlm : len ≤ m := by rw [hmm]; split <;> omega
    have key : ∀ i, i < len → ∃ p q : Int, W.cell? (a.add (i * 2)) = some (.int .i64 p) ∧ W.cell? ((a.add (i * 2)).add 1) = some (.int .i64 q) := by
      intro i him
      obtain ⟨cs', hc, ht⟩ := hi i (by omega)
      rw [LcellsA2] at hc
      obtain ⟨_, hlen, hat⟩ := World.cells?_some hc
      obtain ⟨xs, mm, _, _, _, hxl, hg⟩ := DataW.trod_array Try.underlying105 ht
      rw [LcellsI] at hg
      match cs', hlen with
      | [d0, d1], _ =>
        have g0 := hg 0 (by omega)
        have g1 := hg 1 (by omega)
        rw [List.getElem?_eq_getElem (by omega)] at g0 g1
        obtain ⟨p, hp, _⟩ := DataW.trod_int Try.underlying3 g0
        obtain ⟨q, hq, _⟩ := DataW.trod_int Try.underlying3 g1
        have a0 := hat 0 (by omega)
        have a1 := hat 1 (by omega)
        refine ⟨p, q, ?_, ?_⟩
        · rw [show a.add (i * 2) = (a.add (i * 2)).add 0 from by simp [Addr.add], a0]; simpa using hp
        · rw [a1]; simpa using hq
    rcases Nat.eq_zero_or_pos len with h0 | hpos
    · exact ⟨n0, some a, len, cap, rfl, rfl, by omega, .inl h0, fun h => by omega⟩
    · obtain ⟨p0, q0, k0, _⟩ := key 0 hpos
      rw [Nat.zero_mul, Ladd_zero] at k0
      have hbl := Lcell_block k0
      obtain ⟨b, o, sp⟩ := a
      obtain rfl : sp = none := Lcell_spot k0
      refine ⟨n0, some ⟨b, o, none⟩, len, cap, rfl, rfl, by omega, .inr ⟨b, o, rfl, fun i hi' => ?_⟩, fun _ x hx => ?_⟩
      · obtain ⟨p, q, k1, k2⟩ := key i hi'
        rw [Ladd_none] at k1 k2
        rw [Ladd_none] at k2
        exact ⟨p, q, k1, k2⟩
      · obtain rfl : (⟨b, o, none⟩ : Addr) = x := by simpa using hx
        exact hbl

theorem shapes_in {fuel : Nat} {c : Value} {x : DataW H × List MemPlace} (h : DataW.trod enc Try.prog W base spare held fuel 50 [c] = some x) :
    ∃ sa sn sc, c = .slice sa sn sc ∧ sn ≤ 9223372036854775807 ∧ ShapesIn W sa sn := by
  rcases open_slice Try.underlying50 h with ⟨hcs, _⟩ | ⟨a, len, cap, m, n', D, Pl, hcs, hb, hl, hm, hmm, hx, hi⟩
  · obtain rfl : c = .slice none 0 0 := by simpa using hcs
    exact ⟨none, 0, 0, rfl, by omega, Or.inl rfl⟩
  · obtain rfl : c = .slice (some a) len cap := by simpa using hcs
    unfold maxLen at hm
    have hlm : len ≤ m := by rw [hmm]; split <;> omega
    have key : ∀ i, i < len → ∃ (k : Int) (sa : Option Addr) (sl sc : Nat), W.cell? (a.add (i * 2)) = some (.int .i64 k) ∧ W.cell? ((a.add (i * 2)).add 1) = some (.slice sa sl sc) ∧ sl ≤ 9223372036854775807 ∧ Steps W sa sl ∧ (0 < sl → ∀ x, sa = some x → x.block < W.heap.size) := by
      intro i him
      obtain ⟨cs', hc, ht⟩ := hi i (by omega)
      rw [cellsSh] at hc
      obtain ⟨_, hlen, hat⟩ := World.cells?_some hc
      match cs', hlen with
      | [d0, d1], _ =>
        obtain ⟨k, sa, sl, sc, rfl, rfl, h1, h2, h3⟩ := shape_in ht
        have a0 := hat 0 (by omega)
        have a1 := hat 1 (by omega)
        refine ⟨k, sa, sl, sc, ?_, ?_, h1, h2, h3⟩
        · rw [show a.add (i * 2) = (a.add (i * 2)).add 0 from by simp [Addr.add], a0]; rfl
        · rw [a1]; rfl
    refine ⟨some a, len, cap, rfl, by omega, ?_⟩
    rcases Nat.eq_zero_or_pos len with h0 | hpos
    · exact Or.inl h0
    · obtain ⟨_, _, _, _, k0, _⟩ := key 0 hpos
      rw [Nat.zero_mul, Ladd_zero] at k0
      obtain ⟨b, o, sp⟩ := a
      obtain rfl : sp = none := Lcell_spot k0
      refine Or.inr ⟨b, o, rfl, fun i hi' => ?_⟩
      obtain ⟨k, sa, sl, sc, k1, k2, r⟩ := key i hi'
      rw [Ladd_none] at k1 k2
      rw [Ladd_none] at k2
      exact ⟨k, sa, sl, sc, k1, k2, r⟩

/-- The records that came in, read as the walk wants them. -/
theorem open_recs {fuel : Nat} {c : Value} {x : DataW H × List MemPlace} (h : DataW.trod enc Try.prog W base spare held fuel 41 [c] = some x) :
    ∃ a len cap, c = .slice a len cap ∧ len ≤ 9223372036854775807 ∧ RecsIn W a len := by
  rcases open_slice Try.underlying41 h with ⟨hcs, _⟩ | ⟨a, len, cap, m, n', D, Pl, hcs, hb, hl, hm, hmm, hx, hi⟩
  · obtain rfl : c = .slice none 0 0 := by simpa using hcs
    exact ⟨none, 0, 0, rfl, by omega, Or.inl rfl⟩
  · obtain rfl : c = .slice (some a) len cap := by simpa using hcs
    unfold maxLen at hm
    have hlm : len ≤ m := by rw [hmm]; split <;> omega
    have key : ∀ i, i < len → ∃ (nm : ByteArray) (va : Option Addr) (vn vc : Nat) (sa : Option Addr) (sn sc : Nat), W.cell? (a.add (i * 3)) = some (.string nm) ∧ W.cell? ((a.add (i * 3)).add 1) = some (.slice va vn vc) ∧ W.cell? ((a.add (i * 3)).add 2) = some (.slice sa sn sc) ∧ vn ≤ 9223372036854775807 ∧ sn ≤ 9223372036854775807 ∧ NamesIn W va vn ∧ ShapesIn W sa sn := by
      intro i him
      obtain ⟨cs', hc, ht⟩ := hi i (by omega)
      rw [cellsRc] at hc
      obtain ⟨_, hlen, hat⟩ := World.cells?_some hc
      match cs', hlen with
      | [d0, d1, d2], _ =>
        obtain ⟨y0, y1, y2, n, hy, _, g0, g1, g2⟩ := trod_struct3 Try.underlying52 ht
        have g0' : DataW.trod enc Try.prog W base spare held n 9 [d0] = some y0 := by simpa [cellsS] using g0
        have g1' : DataW.trod enc Try.prog W base spare held n 49 [d1] = some y1 := by simpa [cellsNs] using g1
        have g2' : DataW.trod enc Try.prog W base spare held n 50 [d2] = some y2 := by simpa [cellsSs] using g2
        obtain ⟨nm, hnm, hy0, hsz⟩ := DataW.trod_string Try.underlying9 g0'
        obtain rfl : d0 = .string nm := by simpa using hnm
        obtain ⟨va, vn, vc, rfl, e1, e2⟩ := names_in g1'
        obtain ⟨sa, sn, sc, rfl, e3, e4⟩ := shapes_in g2'
        have a0 := hat 0 (by omega)
        have a1 := hat 1 (by omega)
        have a2 := hat 2 (by omega)
        refine ⟨nm, va, vn, vc, sa, sn, sc, ?_, ?_, ?_, e1, e3, e2, e4⟩
        · rw [show a.add (i * 3) = (a.add (i * 3)).add 0 from by simp [Addr.add], a0]; rfl
        · rw [a1]; rfl
        · rw [a2]; rfl
    refine ⟨some a, len, cap, rfl, by omega, ?_⟩
    rcases Nat.eq_zero_or_pos len with h0 | hpos
    · exact Or.inl h0
    · obtain ⟨_, _, _, _, _, _, _, k0, _⟩ := key 0 hpos
      rw [Nat.zero_mul, Ladd_zero] at k0
      obtain ⟨b, o, sp⟩ := a
      obtain rfl : sp = none := Lcell_spot k0
      refine Or.inr ⟨b, o, rfl, fun i hi' => ?_⟩
      obtain ⟨nm, va, vn, vc, sa, sn, sc, k1, k2, k3, r⟩ := key i hi'
      rw [Ladd_none] at k1 k2 k3
      rw [Ladd_none] at k2 k3
      exact ⟨nm, va, vn, vc, sa, sn, sc, k1, k2, k3, r⟩
end
end Go.Proofs.Ytdkhanjfncbfnaa
