import Derived.Test.YtdkhanjfncbfnaaOsCC
namespace Go.Proofs.Ytdkhanjfncbfnaa
open Go Go.RowKit
set_option linter.unusedVariables false
set_option linter.unusedSimpArgs false

/-- What slot j of a row of cells holds. -/
def cellAt (C : Nat → Cl) (j : Nat) : Value :=
  if j % 5 = 0 then .int .u8 (C (j / 5)).h else if j % 5 = 1 then .int .u8 (C (j / 5)).b else if j % 5 = 2 then .int .i64 (C (j / 5)).k else if j % 5 = 3 then .int .i64 (C (j / 5)).o else .int .i64 (C (j / 5)).f
theorem cells5_flat {w : World} {c co n : Nat} {C : Nat → Cl} (h : Cells5 w c co n C) (j : Nat) (hj : j < n * 5) : w.cell? ⟨c, co + j, none⟩ = some (cellAt C j) := by
  obtain ⟨h0, h1, h2, h3, h4⟩ := h (j / 5) (by omega)
  unfold cellAt
  have hm : j % 5 = 0 ∨ j % 5 = 1 ∨ j % 5 = 2 ∨ j % 5 = 3 ∨ j % 5 = 4 := by omega
  rcases hm with e | e | e | e | e
  · rw [if_pos e, show co + j = co + j / 5 * 5 from by omega]; exact h0
  · rw [if_neg (by omega), if_pos e, show co + j = co + j / 5 * 5 + 1 from by omega]; exact h1
  · rw [if_neg (by omega), if_neg (by omega), if_pos e, show co + j = co + j / 5 * 5 + 2 from by omega]; exact h2
  · rw [if_neg (by omega), if_neg (by omega), if_neg (by omega), if_pos e, show co + j = co + j / 5 * 5 + 3 from by omega]; exact h3
  · rw [if_neg (by omega), if_neg (by omega), if_neg (by omega), if_neg (by omega), show co + j = co + j / 5 * 5 + 4 from by omega]; exact h4
theorem flat_cells5 {w : World} {c co n : Nat} {C : Nat → Cl} (h : ∀ j, j < n * 5 → w.cell? ⟨c, co + j, none⟩ = some (cellAt C j)) : Cells5 w c co n C := fun i hi => by
  have g0 := h (i * 5) (by omega)
  have g1 := h (i * 5 + 1) (by omega)
  have g2 := h (i * 5 + 2) (by omega)
  have g3 := h (i * 5 + 3) (by omega)
  have g4 := h (i * 5 + 4) (by omega)
  unfold cellAt at g0 g1 g2 g3 g4
  rw [if_pos (by omega), show i * 5 / 5 = i from by omega] at g0
  rw [if_neg (by omega), if_pos (by omega), show (i * 5 + 1) / 5 = i from by omega, ← Nat.add_assoc] at g1
  rw [if_neg (by omega), if_neg (by omega), if_pos (by omega), show (i * 5 + 2) / 5 = i from by omega, ← Nat.add_assoc] at g2
  rw [if_neg (by omega), if_neg (by omega), if_neg (by omega), if_pos (by omega), show (i * 5 + 3) / 5 = i from by omega, ← Nat.add_assoc] at g3
  rw [if_neg (by omega), if_neg (by omega), if_neg (by omega), if_neg (by omega), show (i * 5 + 4) / 5 = i from by omega, ← Nat.add_assoc] at g4
  exact ⟨g0, g1, g2, g3, g4⟩
/-- n cells of D put at q. -/
def copyC (C : Nat → Cl) (q n : Nat) (D : Nat → Cl) : Nat → Cl := fun i => if q ≤ i ∧ i < q + n then D (i - q) else C i
def row5 (D : Nat → Cl) (n : Nat) : List Value := (List.range (n * 5)).map (cellAt D)
theorem row5_len (D : Nat → Cl) (n : Nat) : (row5 D n).length = n * 5 := by simp [row5]
theorem cellAt_one (D : Nat → Cl) (j : Nat) : (cellAt D j).oneCell' = true := by
  unfold cellAt
  split
  · rfl
  · split
    · rfl
    · split
      · rfl
      · split <;> rfl
theorem row5_one (D : Nat → Cl) (n : Nat) : ∀ v ∈ row5 D n, v.oneCell' = true := fun v hv => by
  unfold row5 at hv
  obtain ⟨j, _, rfl⟩ := List.mem_map.1 hv
  exact cellAt_one D j
theorem run_copy5 (w : World) (b o n dCap : Nat) (a : Addr) (sCap : Nat) (cs : List Value) (hn : cs.length = n * 5)
    (hsrc : ∀ j v, cs[j]? = some v → w.cell? (a.add j) = some v) (hc : ∀ j, j < cs.length → (w.cell? ⟨b, o + j, none⟩).isSome = true) (hf : ∀ j, j < cs.length → w.frozen? ⟨b, o + j, none⟩ = false) (h1 : ∀ v ∈ cs, v.oneCell' = true) :
    (Builtin.copy_ #[100, 100] 3 #[.slice (some ⟨b, o, none⟩) n dCap, .slice (some a) n sCap]).run Try.prog w = .ok (goInt n) (w.setCells b o cs) := by
  have hl := run_loadCells_list (P := Try.prog) w a cs hsrc
  have hst := run_storeCells_cells (P := Try.prog) b o cs 0 w (by simpa using hc) (by simpa using hf) h1
  obtain ⟨i, hi, hz, hi5, hby⟩ := info_parts infoC
  simp [Builtin.copy_, run_underlying Try.underlying100, Builtin.lenOf, Builtin.firstCells, sizeOf, typeInfo, hi, hi5, ← hn, hl, hst]
theorem Cells5.copied {w : World} {c N : Nat} {C : Nat → Cl} (h : Cells5 w c 0 N C) (q n : Nat) (hq : q + n ≤ N) (D : Nat → Cl) : Cells5 (w.setCells c (q * 5) (row5 D n)) c 0 N (copyC C q n D) := by
  apply flat_cells5
  intro j hj
  have hl := row5_len D n
  by_cases hin : q * 5 ≤ j ∧ j < q * 5 + n * 5
  · have hget := World.cell?_setCells_in c (row5 D n) (q * 5) w (fun i hi => by
      have := cells5_flat h (q * 5 + i) (by rw [hl] at hi; omega)
      rw [Nat.zero_add] at this
      rw [this]; rfl) (j - q * 5) (by rw [hl]; omega)
    rw [show q * 5 + (j - q * 5) = 0 + j from by omega] at hget
    rw [hget]
    unfold row5 cellAt copyC
    simp only [List.getElem_map, List.getElem_range]
    rw [show (j - q * 5) % 5 = j % 5 from by omega, show (j - q * 5) / 5 = j / 5 - q from by omega]
    have hP : q ≤ j / 5 ∧ j / 5 < q + n := by omega
    simp only [if_pos hP]
  · rw [World.cell?_setCells_out c (row5 D n) (q * 5) w _ (fun _ _ => by rw [hl]; simp; omega)]
    have := cells5_flat h j hj
    rw [this]
    unfold cellAt copyC
    have hP : ¬ (q ≤ j / 5 ∧ j / 5 < q + n) := by omega
    simp only [if_neg hP]
end Go.Proofs.Ytdkhanjfncbfnaa
