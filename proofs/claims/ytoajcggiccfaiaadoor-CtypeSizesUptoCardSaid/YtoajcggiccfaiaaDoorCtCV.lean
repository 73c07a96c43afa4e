import Derived.Test.YtoajcggiccfaiaaDoorCtCRD
import Derived.Test.YtoajcggiccfaiaaDoorCtY
import Derived.Deep.Strs
import Derived.SliceStrings
namespace Go.Proofs.YtoajcggiccfaiaaDoor
open Go Go.ChangeShapes Go.WideShapes Go.Deep Go.Joins Go.RowKit Go.ChangeAt
set_option linter.unusedVariables false
set_option linter.unusedSimpArgs false

set_option maxRecDepth 100000 in
theorem RecsIn.below {w w' : World} {a : Option Addr} {n : Nat} (h : RecsIn w a n) (hb : Below w.heap.size w w') : RecsIn w' a n := by
  rcases h with h | ⟨b, off, ha, h⟩
  · exact Or.inl h
  · refine Or.inr ⟨b, off, ha, fun i hi => ?_⟩
    obtain ⟨nm, va, vn, vc, sa, sn, sc, h1, h2, h3, h4, h5, h6, h7, h8⟩ := h i hi
    have hl := World.block_lt_of_cell? w _ h1
    exact ⟨nm, va, vn, vc, sa, sn, sc, by rw [hb.cell hl]; exact h1, by rw [hb.cell (by exact hl)]; exact h2, by rw [hb.cell (by exact hl)]; exact h3, h4, h5, h6, h7.below hb, h8.below hb⟩
set_option maxRecDepth 100000 in
theorem add_none (b off k : Nat) : (⟨b, off, none⟩ : Addr).add k = ⟨b, off + k, none⟩ := by unfold Addr.add; split <;> simp_all
set_option maxRecDepth 100000 in
theorem add_zero (a : Addr) : a.add 0 = a := by simp [Addr.add]
set_option maxRecDepth 100000 in
theorem cellsS : Tryd.prog.cellsOf 9 = 1 := by kernel_rfl
set_option maxRecDepth 100000 in
theorem cellsSh : Tryd.prog.cellsOf 25 = 2 := by kernel_rfl
set_option maxRecDepth 100000 in
theorem cellsRc : Tryd.prog.cellsOf 63 = 3 := by kernel_rfl
set_option maxRecDepth 100000 in
theorem cellsNs : Tryd.prog.cellsOf 60 = 1 := by kernel_rfl
set_option maxRecDepth 100000 in
theorem cellsSs : Tryd.prog.cellsOf 61 = 1 := by kernel_rfl
set_option maxRecDepth 100000 in
theorem cellsSt : Tryd.prog.cellsOf 23 = 1 := by kernel_rfl

section
variable {H : Type} {enc : TypeId × Value → H} {W : World} {base : Nat} {spare : Nat → Bool} {held : Bool}
set_option maxRecDepth 100000 in
theorem names_in {fuel : Nat} {c : Value} {x : DataW H × List MemPlace} (h : DataW.trod enc Tryd.prog W base spare held fuel 60 [c] = some x) :
    ∃ va vn vc, c = .slice va vn vc ∧ vn ≤ 9223372036854775807 ∧ NamesIn W va vn := by
  rcases open_strings Tryd.underlying60 Tryd.underlying9 cellsS h with ⟨hcs, _⟩ | ⟨a, len, cap, ss, hcs, _, hl, hm, hss, _, hc, _⟩
  · obtain rfl : c = .slice none 0 0 := by simpa using hcs
    exact ⟨none, 0, 0, rfl, by omega, Or.inl rfl⟩
  · obtain rfl : c = .slice (some a) len cap := by simpa using hcs
    unfold maxLen at hm
    have hlm : len ≤ ss.length := by rw [hss]; split <;> omega
    refine ⟨some a, len, cap, rfl, by omega, ?_⟩
    rcases Nat.eq_zero_or_pos len with h0 | h0
    · exact Or.inl h0
    · have c0 := hc 0 (by omega)
      rw [add_zero] at c0
      obtain ⟨b, o, sp⟩ := a
      obtain rfl : sp = none := cell_spot c0
      refine Or.inr ⟨b, o, rfl, fun i hi => ?_⟩
      have := hc i (by omega)
      rw [add_none] at this
      exact ⟨_, this⟩

set_option maxRecDepth 100000 in
theorem shape_in {fuel : Nat} {c0 c1 : Value} {x : DataW H × List MemPlace} (h : DataW.trod enc Tryd.prog W base spare held fuel 25 [c0, c1] = some x) :
    ∃ (n : Int) (a : Option Addr) (len cap : Nat), c0 = .int .i64 n ∧ c1 = .slice a len cap ∧ len ≤ 9223372036854775807 ∧ Steps W a len ∧ (0 < len → ∀ x, a = some x → x.block < W.heap.size) := by
  obtain ⟨y0, y1, n, rfl, _, h0, h1⟩ := trod_struct2 Tryd.underlying25 h
  have h0' : DataW.trod enc Tryd.prog W base spare held n 3 [c0] = some y0 := by simpa [cellsI] using h0
  have h1' : DataW.trod enc Tryd.prog W base spare held n 23 [c1] = some y1 := by simpa [cellsSt] using h1
  obtain ⟨n0, hn0, _⟩ := DataW.trod_int Tryd.underlying3 h0'
  obtain rfl : c0 = .int .i64 n0 := by simpa using hn0
  rcases open_slice Tryd.underlying23 h1' with ⟨hcs, _⟩ | ⟨a, len, cap, m, n', D, Pl, hcs, hb, hl, hm, hmm, hx, hi⟩
  · obtain rfl : c1 = .slice none 0 0 := by simpa using hcs
    exact ⟨n0, none, 0, 0, rfl, rfl, by omega, .inl rfl, fun h => by omega⟩
  · obtain rfl : c1 = .slice (some a) len cap := by simpa using hcs
    unfold maxLen at hm
    have hlm : len ≤ m := by rw [hmm]; split <;> omega
    have key : ∀ i, i < len → ∃ p q : Int, W.cell? (a.add (i * 2)) = some (.int .i64 p) ∧ W.cell? ((a.add (i * 2)).add 1) = some (.int .i64 q) := by
      intro i him
      obtain ⟨cs', hc, ht⟩ := hi i (by omega)
      rw [cellsA2] at hc
      obtain ⟨_, hlen, hat⟩ := World.cells?_some hc
      obtain ⟨xs, mm, _, _, _, hxl, hg⟩ := DataW.trod_array Tryd.underlying69 ht
      rw [cellsI] at hg
      match cs', hlen with
      | [d0, d1], _ =>
        have g0 := hg 0 (by omega)
        have g1 := hg 1 (by omega)
        rw [List.getElem?_eq_getElem (by omega)] at g0 g1
        obtain ⟨p, hp, _⟩ := DataW.trod_int Tryd.underlying3 g0
        obtain ⟨q, hq, _⟩ := DataW.trod_int Tryd.underlying3 g1
        have a0 := hat 0 (by omega)
        have a1 := hat 1 (by omega)
        refine ⟨p, q, ?_, ?_⟩
        · rw [show a.add (i * 2) = (a.add (i * 2)).add 0 from by simp [Addr.add], a0]; simpa using hp
        · rw [a1]; simpa using hq
    rcases Nat.eq_zero_or_pos len with h0 | hpos
    · exact ⟨n0, some a, len, cap, rfl, rfl, by omega, .inl h0, fun h => by omega⟩
    · obtain ⟨p0, q0, k0, _⟩ := key 0 hpos
      rw [Nat.zero_mul, add_zero] at k0
      have hbl := cell_block k0
      obtain ⟨b, o, sp⟩ := a
      obtain rfl : sp = none := cell_spot k0
      refine ⟨n0, some ⟨b, o, none⟩, len, cap, rfl, rfl, by omega, .inr ⟨b, o, rfl, fun i hi' => ?_⟩, fun _ x hx => ?_⟩
      · obtain ⟨p, q, k1, k2⟩ := key i hi'
        rw [add_none] at k1 k2
        rw [add_none] at k2
        exact ⟨p, q, k1, k2⟩
      · obtain rfl : (⟨b, o, none⟩ : Addr) = x := by simpa using hx
        exact hbl

set_option maxRecDepth 100000 in
theorem shapes_in {fuel : Nat} {c : Value} {x : DataW H × List MemPlace} (h : DataW.trod enc Tryd.prog W base spare held fuel 61 [c] = some x) :
    ∃ sa sn sc, c = .slice sa sn sc ∧ sn ≤ 9223372036854775807 ∧ ShapesIn W sa sn := by
  rcases open_slice Tryd.underlying61 h with ⟨hcs, _⟩ | ⟨a, len, cap, m, n', D, Pl, hcs, hb, hl, hm, hmm, hx, hi⟩
  · obtain rfl : c = .slice none 0 0 := by simpa using hcs
    exact ⟨none, 0, 0, rfl, by omega, Or.inl rfl⟩
  · obtain rfl : c = .slice (some a) len cap := by simpa using hcs
    unfold maxLen at hm
    have hlm : len ≤ m := by rw [hmm]; split <;> omega
    have key : ∀ i, i < len → ∃ (k : Int) (sa : Option Addr) (sl sc : Nat), W.cell? (a.add (i * 2)) = some (.int .i64 k) ∧ W.cell? ((a.add (i * 2)).add 1) = some (.slice sa sl sc) ∧ sl ≤ 9223372036854775807 ∧ Steps W sa sl ∧ (0 < sl → ∀ x, sa = some x → x.block < W.heap.size) := by
      intro i him
      obtain ⟨cs', hc, ht⟩ := hi i (by omega)
      rw [cellsSh] at hc
      obtain ⟨_, hlen, hat⟩ := World.cells?_some hc
      match cs', hlen with
      | [d0, d1], _ =>
        obtain ⟨k, sa, sl, sc, rfl, rfl, h1, h2, h3⟩ := shape_in ht
        have a0 := hat 0 (by omega)
        have a1 := hat 1 (by omega)
        refine ⟨k, sa, sl, sc, ?_, ?_, h1, h2, h3⟩
        · rw [show a.add (i * 2) = (a.add (i * 2)).add 0 from by simp [Addr.add], a0]; rfl
        · rw [a1]; rfl
    refine ⟨some a, len, cap, rfl, by omega, ?_⟩
    rcases Nat.eq_zero_or_pos len with h0 | hpos
    · exact Or.inl h0
    · obtain ⟨_, _, _, _, k0, _⟩ := key 0 hpos
      rw [Nat.zero_mul, add_zero] at k0
      obtain ⟨b, o, sp⟩ := a
      obtain rfl : sp = none := cell_spot k0
      refine Or.inr ⟨b, o, rfl, fun i hi' => ?_⟩
      obtain ⟨k, sa, sl, sc, k1, k2, r⟩ := key i hi'
      rw [add_none] at k1 k2
      rw [add_none] at k2
      exact ⟨k, sa, sl, sc, k1, k2, r⟩

set_option maxRecDepth 100000 in
theorem bulk_mem {d : DataW H} : ∀ {l : List (DataW H)}, d ∈ l → Rows.uptoBulk d ≤ Rows.uptoBulkAll l := by
  intro l
  induction l with
  | nil => intro h; cases h
  | cons x l ih =>
    intro h
    rcases List.mem_cons.1 h with rfl | h
    · simp only [Rows.uptoBulkAll]; omega
    · have := ih h
      simp only [Rows.uptoBulkAll]; omega
set_option maxRecDepth 100000 in
/-- The records that came in, read as the walk wants them. -/
theorem open_recs {fuel : Nat} {c : Value} {x : DataW H × List MemPlace} (h : DataW.trod enc Tryd.prog W base spare held fuel 22 [c] = some x) (hbulk : Rows.uptoBulk x.1 ≤ 1048576) :
    ∃ a len cap, c = .slice a len cap ∧ len ≤ 9223372036854775807 ∧ RecsIn W a len := by
  rcases open_slice Tryd.underlying22 h with ⟨hcs, _⟩ | ⟨a, len, cap, m, n', D, Pl, hcs, hb, hl, hm, hmm, hx, hi⟩
  · obtain rfl : c = .slice none 0 0 := by simpa using hcs
    exact ⟨none, 0, 0, rfl, by omega, Or.inl rfl⟩
  · obtain rfl : c = .slice (some a) len cap := by simpa using hcs
    unfold maxLen at hm
    have hlm : len ≤ m := by rw [hmm]; split <;> omega
    have key : ∀ i, i < len → ∃ (nm : ByteArray) (va : Option Addr) (vn vc : Nat) (sa : Option Addr) (sn sc : Nat), W.cell? (a.add (i * 3)) = some (.string nm) ∧ W.cell? ((a.add (i * 3)).add 1) = some (.slice va vn vc) ∧ W.cell? ((a.add (i * 3)).add 2) = some (.slice sa sn sc) ∧ vn ≤ 9223372036854775807 ∧ sn ≤ 9223372036854775807 ∧ nm.size ≤ 1048576 ∧ NamesIn W va vn ∧ ShapesIn W sa sn := by
      intro i him
      obtain ⟨cs', hc, ht⟩ := hi i (by omega)
      rw [cellsRc] at hc
      obtain ⟨_, hlen, hat⟩ := World.cells?_some hc
      match cs', hlen with
      | [d0, d1, d2], _ =>
        obtain ⟨y0, y1, y2, n, hy, _, g0, g1, g2⟩ := trod_struct3 Tryd.underlying63 ht
        have g0' : DataW.trod enc Tryd.prog W base spare held n 9 [d0] = some y0 := by simpa [cellsS] using g0
        have g1' : DataW.trod enc Tryd.prog W base spare held n 60 [d1] = some y1 := by simpa [cellsNs] using g1
        have g2' : DataW.trod enc Tryd.prog W base spare held n 61 [d2] = some y2 := by simpa [cellsSs] using g2
        obtain ⟨nm, hnm, hy0, hsz⟩ := DataW.trod_string Tryd.underlying9 g0'
        obtain rfl : d0 = .string nm := by simpa using hnm
        obtain ⟨va, vn, vc, rfl, e1, e2⟩ := names_in g1'
        obtain ⟨sa, sn, sc, rfl, e3, e4⟩ := shapes_in g2'
        have hD : D i = .agg [y0.1, y1.1, y2.1] := congrArg Prod.fst hy
        have hb1 : Rows.uptoBulk (D i) ≤ Rows.uptoBulkAll ((List.range len).map D) := bulk_mem (List.mem_map.2 ⟨i, List.mem_range.2 him, rfl⟩)
        have hb2 : Rows.uptoBulkAll ((List.range len).map D) ≤ 1048576 := by
          have := hbulk
          rw [hx] at this
          simp only [Rows.uptoBulk] at this
          omega
        rw [hD] at hb1
        simp only [Rows.uptoBulk, Rows.uptoBulkAll] at hb1
        rw [hy0] at hb1
        simp only [Rows.uptoBulk] at hb1
        have hsl : nm.size = nm.data.toList.length := by show nm.data.size = _; rw [Array.length_toList]
        have a0 := hat 0 (by omega)
        have a1 := hat 1 (by omega)
        have a2 := hat 2 (by omega)
        refine ⟨nm, va, vn, vc, sa, sn, sc, ?_, ?_, ?_, e1, e3, by omega, e2, e4⟩
        · rw [show a.add (i * 3) = (a.add (i * 3)).add 0 from by simp [Addr.add], a0]; rfl
        · rw [a1]; rfl
        · rw [a2]; rfl
    refine ⟨some a, len, cap, rfl, by omega, ?_⟩
    rcases Nat.eq_zero_or_pos len with h0 | hpos
    · exact Or.inl h0
    · obtain ⟨_, _, _, _, _, _, _, k0, _⟩ := key 0 hpos
      rw [Nat.zero_mul, add_zero] at k0
      obtain ⟨b, o, sp⟩ := a
      obtain rfl : sp = none := cell_spot k0
      refine Or.inr ⟨b, o, rfl, fun i hi' => ?_⟩
      obtain ⟨nm, va, vn, vc, sa, sn, sc, k1, k2, k3, r⟩ := key i hi'
      rw [add_none] at k1 k2 k3
      rw [add_none] at k2 k3
      exact ⟨nm, va, vn, vc, sa, sn, sc, k1, k2, k3, r⟩
end
end Go.Proofs.YtoajcggiccfaiaaDoor
