import Derived.Test.YtoajcggiccfaiaaDoorCtCL
import Derived.Test.YtoajcggiccfaiaaDoorCtCI
namespace Go.Proofs.YtoajcggiccfaiaaDoor
open Go Go.RowKit
set_option linter.unusedVariables false
set_option linter.unusedSimpArgs false

/-- The blocks behind R, the three rows' own aside. -/
def PE (R : Nat) (w : World) (vN vT vF : Value) (b : Nat) : Prop := R < b ∧ b < w.heap.size ∧ vN.ownBlock ≠ some b ∧ vT.ownBlock ≠ some b ∧ vF.ownBlock ≠ some b
/-- A round of the law's building: the struct at R (its cells hold xN, xT), the rows of names, types and fields, and what lies behind the types. -/
structure RowSt (w : World) (R : Nat) (nm : ByteArray) (xN xT vN : Value) (i : Nat) (vT : Value) (j : Nat) (vF : Value) (m ee : Nat) (NM : Nat → ByteArray) (TY : Nat → Ty) (EL : Nat → Option Addr) : Prop where
  c0 : w.cell? ⟨R, 0, none⟩ = some (.string nm)
  c1 : w.cell? ⟨R, 1, none⟩ = some xN
  c2 : w.cell? ⟨R, 2, none⟩ = some xT
  f1 : w.frozen? ⟨R, 1, none⟩ = false
  f2 : w.frozen? ⟨R, 2, none⟩ = false
  n : w.ownsRow (R + 1) 9 1 vN i (namesL NM i)
  t : w.ownsRow (R + 1) 34 9 vT j (typesL TY EL j)
  f : w.ownsRow (R + 1) 45 11 vF m (cellsT NM TY EL (fun _ => 0) m)
  e : ∀ k, k < ee → ElIn w (PE R w vN vT vF) (TY k) (EL k)
section
variable {w wa w' : World} {R : Nat} {nm : ByteArray} {xN xT vN vT vF v' : Value} {i j m ee : Nat} {NM : Nat → ByteArray} {TY : Nat → Ty} {EL : Nat → Option Addr}
theorem RowSt.below (h : RowSt w R nm xN xT vN i vT j vF m ee NM TY EL) (hb : Below w.heap.size w w') (hl : R < w.heap.size) : RowSt w' R nm xN xT vN i vT j vF m ee NM TY EL :=
  ⟨by rw [hb.cell (by exact hl)]; exact h.c0, by rw [hb.cell (by exact hl)]; exact h.c1, by rw [hb.cell (by exact hl)]; exact h.c2, by rw [hb.frozen (by exact hl)]; exact h.f1, by rw [hb.frozen (by exact hl)]; exact h.f2,
    ownsRow_below h.n hb, ownsRow_below h.t hb, ownsRow_below h.f hb, fun k hk => (h.e k hk).keep (fun b hp o => hb.cell (p := ⟨b, o, none⟩) hp.2.1) (fun b hp => ⟨hp.1, Nat.lt_of_lt_of_le hp.2.1 hb.size, hp.2.2⟩)⟩
theorem RowSt.part (h : RowSt w R nm vN vT vN i vT j vF m ee NM TY EL) : RPart w R nm vN i vT j NM TY EL := ⟨h.c0, h.c1, h.c2, h.f1, h.f2, h.n, h.t⟩
/-- One row grows: the cells of R and all else stand. -/
theorem rowst_grow (h : RowSt w R nm xN xT vN i vT j vF m ee NM TY EL) (hl : R < w.heap.size) {vX : Value} {bX nX sX : Nat} {eX : TypeId} {xs : List Value} (hX : w.ownsRow (R + 1) eX sX vX nX xs) (hg : w.grownBy w' vX.ownBlock) :
    w'.cell? ⟨R, 0, none⟩ = some (.string nm) ∧ w'.cell? ⟨R, 1, none⟩ = some xN ∧ w'.cell? ⟨R, 2, none⟩ = some xT ∧ w'.frozen? ⟨R, 1, none⟩ = false ∧ w'.frozen? ⟨R, 2, none⟩ = false := by
  have hne : some R ≠ vX.ownBlock := fun e => by have := (hX.lt R e.symm).1; omega
  refine ⟨?_, ?_, ?_, ?_, ?_⟩
  · rw [hg.cell_far _ hl hne]; exact h.c0
  · rw [hg.cell_far _ hl hne]; exact h.c1
  · rw [hg.cell_far _ hl hne]; exact h.c2
  · rw [hg.frozen_far _ hl hne]; exact h.f1
  · rw [hg.frozen_far _ hl hne]; exact h.f2
theorem RowSt.addN (h : RowSt w R nm xN xT vN i vT j vF m ee NM TY EL) (hl : R < w.heap.size) (hb : Below w.heap.size w wa) (hg : wa.grownBy w' vN.ownBlock) {g c : Nat} (hat : vN.ownBlock = some g ∨ g = wa.heap.size)
    (ho : w'.ownsRow (R + 1) 9 1 (.slice (some ⟨g, 0, none⟩) (i + 1) c) (i + 1) (namesL NM (i + 1))) : RowSt w' R nm xN xT (.slice (some ⟨g, 0, none⟩) (i + 1) c) (i + 1) vT j vF m ee NM TY EL := by
  have ha := h.below hb hl
  have hla : R < wa.heap.size := Nat.lt_of_lt_of_le hl hb.size
  obtain ⟨k0, k1, k2, k3, k4⟩ := rowst_grow (bX := 0) ha hla ha.n hg
  refine ⟨k0, k1, k2, k3, k4, ho, ha.t.kept hg (own_apart ha.t ha.n (by decide)), ha.f.kept hg (own_apart ha.f ha.n (by decide)), fun k hk => (ha.e k hk).keep (fun b hp o => hg.cell_far _ hp.2.1 (fun e => hp.2.2.1 e.symm)) (fun b hp => ⟨hp.1, Nat.lt_of_lt_of_le hp.2.1 hg.size, fun e => ?_, hp.2.2.2⟩)⟩
  have hgb : g = b := by simpa [Value.ownBlock] using e
  rcases hat with h1 | h1
  · rw [hgb] at h1; exact hp.2.2.1 h1
  · have := hp.2.1; omega
theorem RowSt.addT (h : RowSt w R nm xN xT vN i vT j vF m ee NM TY EL) (hl : R < w.heap.size) (hb : Below w.heap.size w wa) (hg : wa.grownBy w' vT.ownBlock) {g c : Nat} (hat : vT.ownBlock = some g ∨ g = wa.heap.size)
    (ho : w'.ownsRow (R + 1) 34 9 (.slice (some ⟨g, 0, none⟩) (j + 1) c) (j + 1) (typesL TY EL (j + 1))) : RowSt w' R nm xN xT vN i (.slice (some ⟨g, 0, none⟩) (j + 1) c) (j + 1) vF m ee NM TY EL := by
  have ha := h.below hb hl
  have hla : R < wa.heap.size := Nat.lt_of_lt_of_le hl hb.size
  obtain ⟨k0, k1, k2, k3, k4⟩ := rowst_grow (bX := 0) ha hla ha.t hg
  refine ⟨k0, k1, k2, k3, k4, ha.n.kept hg (own_apart ha.n ha.t (by decide)), ho, ha.f.kept hg (own_apart ha.f ha.t (by decide)), fun k hk => (ha.e k hk).keep (fun b hp o => hg.cell_far _ hp.2.1 (fun e => hp.2.2.2.1 e.symm)) (fun b hp => ⟨hp.1, Nat.lt_of_lt_of_le hp.2.1 hg.size, hp.2.2.1, fun e => ?_, hp.2.2.2.2⟩)⟩
  have hgb : g = b := by simpa [Value.ownBlock] using e
  rcases hat with h1 | h1
  · rw [hgb] at h1; exact hp.2.2.2.1 h1
  · have := hp.2.1; omega
theorem RowSt.addF (h : RowSt w R nm xN xT vN i vT j vF m ee NM TY EL) (hl : R < w.heap.size) (hb : Below w.heap.size w wa) (hg : wa.grownBy w' vF.ownBlock) {g c : Nat} (hat : vF.ownBlock = some g ∨ g = wa.heap.size)
    (ho : w'.ownsRow (R + 1) 45 11 (.slice (some ⟨g, 0, none⟩) (m + 1) c) (m + 1) (cellsT NM TY EL (fun _ => 0) (m + 1))) : RowSt w' R nm xN xT vN i vT j (.slice (some ⟨g, 0, none⟩) (m + 1) c) (m + 1) ee NM TY EL := by
  have ha := h.below hb hl
  have hla : R < wa.heap.size := Nat.lt_of_lt_of_le hl hb.size
  obtain ⟨k0, k1, k2, k3, k4⟩ := rowst_grow (bX := 0) ha hla ha.f hg
  refine ⟨k0, k1, k2, k3, k4, ha.n.kept hg (own_apart ha.n ha.f (by decide)), ha.t.kept hg (own_apart ha.t ha.f (by decide)), ho, fun k hk => (ha.e k hk).keep (fun b hp o => hg.cell_far _ hp.2.1 (fun e => hp.2.2.2.2 e.symm)) (fun b hp => ⟨hp.1, Nat.lt_of_lt_of_le hp.2.1 hg.size, hp.2.2.1, hp.2.2.2.1, fun e => ?_⟩)⟩
  have hgb : g = b := by simpa [Value.ownBlock] using e
  rcases hat with h1 | h1
  · rw [hgb] at h1; exact hp.2.2.2.2 h1
  · have := hp.2.1; omega
/-- Both stores. -/
theorem RowSt.put (h : RowSt w R nm xN xT vN i vT j vF m ee NM TY EL) : RowSt ((w.setCell ⟨R, 1, none⟩ vN).setCell ⟨R, 2, none⟩ vT) R nm vN vT vN i vT j vF m ee NM TY EL := by
  obtain ⟨c0, c1, c2, f1, f2, hn, ht, hf, he⟩ := h
  refine ⟨?_, ?_, ?_, ?_, ?_, ownsRow_setCell_below (ownsRow_setCell_below hn (by simp) _) (by simp) _, ownsRow_setCell_below (ownsRow_setCell_below ht (by simp) _) (by simp) _, ownsRow_setCell_below (ownsRow_setCell_below hf (by simp) _) (by simp) _, fun k hk => (he k hk).keep (fun b hp o => ?_) (fun b hp => ?_)⟩
  · simp [go_sem, c0, c1, c2]
  · simp [go_sem, c0, c1, c2]
  · simp [go_sem, c0, c1, c2]
  · simp [go_sem, f1]
  · simp [go_sem, f2]
  · have h1 := hp.1
    rw [World.cell?_of_block (Below.heap_setCell _ _ _ b (by simp; omega)), World.cell?_of_block (Below.heap_setCell _ _ _ b (by simp; omega))]
  · obtain ⟨h1, h2, h3⟩ := hp
    exact ⟨h1, by simpa using h2, h3⟩
/-- Another field's name and type are known. -/
theorem RowSt.next {k : Nat} (h : RowSt w R nm xN xT vN k vT k vF k k NM TY EL) (s : ByteArray) (t : Ty) (el : Option Addr) (he : ElIn w (PE R w vN vT vF) t el) : RowSt w R nm xN xT vN k vT k vF k (k + 1) (upd NM k s) (upd TY k t) (upd EL k el) := by
  have hN : ∀ j, j ≤ k → namesL (upd NM k s) j = namesL NM j := by
    intro j
    induction j with
    | zero => intro _; rfl
    | succ j ih => intro hj; rw [namesL, namesL, ih (by omega), upd_lt _ _ _ (by omega)]
  have hT : ∀ j, j ≤ k → typesL (upd TY k t) (upd EL k el) j = typesL TY EL j := by
    intro j
    induction j with
    | zero => intro _; rfl
    | succ j ih => intro hj; rw [typesL, typesL, ih (by omega), upd_lt _ _ _ (by omega), upd_lt _ _ _ (by omega)]
  have hF : ∀ j, j ≤ k → cellsT (upd NM k s) (upd TY k t) (upd EL k el) (fun _ => 0) j = cellsT NM TY EL (fun _ => 0) j := by
    intro j
    induction j with
    | zero => intro _; rfl
    | succ j ih => intro hj; rw [cellsT, cellsT, ih (by omega), upd_lt _ _ _ (by omega), upd_lt _ _ _ (by omega), upd_lt _ _ _ (by omega)]
  refine ⟨h.c0, h.c1, h.c2, h.f1, h.f2, by rw [hN k (Nat.le_refl _)]; exact h.n, by rw [hT k (Nat.le_refl _)]; exact h.t, by rw [hF k (Nat.le_refl _)]; exact h.f, fun j hj => ?_⟩
  by_cases hjk : j < k
  · rw [upd_lt _ _ _ hjk, upd_lt _ _ _ hjk]; exact h.e j hjk
  · obtain rfl : j = k := by omega
    rw [upd_at, upd_at]; exact he
end
end Go.Proofs.YtoajcggiccfaiaaDoor
