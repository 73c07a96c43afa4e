import Derived.Test.YtoajcggiccfaiaaDoorCtCO
import Derived.Deep.RegionLaw
namespace Go.Proofs.YtoajcggiccfaiaaDoor
open Go Go.RowKit
set_option linter.unusedVariables false
set_option linter.unusedSimpArgs false

section
variable {ops : Array Oper} {o : Oper} {a : Act} {K : Act → World → Prop} {Q : Exit → Act → World → Prop} {E : Prop} {W w5 : World} {R k j m ee : Nat} {nm : ByteArray} {xN xT vN vT vF : Value} {NM : Nat → ByteArray} {TY : Nat → Ty} {EL : Nat → Option Addr}
/-- A name is appended to its row, in whatever world behind w5. -/
theorem stepN (hgd : o.guard = none) (s x : Operand) (ho : o.op = .call { callee := .builtin .append, args := #[s, x], argTypes := #[60, 60] }) (hst : RowSt w5 R nm xN xT vN k vT j vF m ee NM TY EL) (hR : R < w5.heap.size) (hk : k ≤ 1000) (hb : Below w5.heap.size w5 W)
    (ad : Addr) (hs : a.eval s = vN) (hx : a.eval x = .slice (some ad) 1 1) (hlit : W.cell? ad = some (.string (NM k)))
    (h : ∀ g c w', RowSt w' R nm xN xT (.slice (some ⟨g, 0, none⟩) (k + 1) c) (k + 1) vT j vF m ee NM TY EL → W.heap.size ≤ w'.heap.size → (∀ b, b < W.heap.size → vN.ownBlock ≠ some b → ∀ o, w'.cell? ⟨b, o, none⟩ = W.cell? ⟨b, o, none⟩) → Below R w5 w' → K (a.put o.dst (.slice (some ⟨g, 0, none⟩) (k + 1) c)) w') :
    if Region.wanted o (yielded ops a.tmps) = true then Oper.wp Tryd.prog o a W K Q else E := by
  obtain ⟨s0, hs1, hs2, hs3, hs4⟩ := info_parts infoStr
  have hz := hb.size
  refine step_append_lies W hgd s x 60 ho (R + 1) 9 s0 (.string ⟨#[]⟩) 1 16 Tryd.underlying60 hs1 hs2 hs3 hs4 rfl (by omega) vN k (namesL NM k) hs (ownsRow_below hst.n hb) ad 1 1 [.string (NM k)] hx rfl (fun i u hu => ?_) (by simp [Value.oneCell']) (by omega) (by unfold maxLen; omega) (by omega) (by omega) W.heap.size rfl ?_
  · cases i with
    | zero =>
      have : u = .string (NM k) := by simpa using hu.symm
      rw [this, show ad.add 0 = ad from by simp [Addr.add]]; exact hlit
    | succ i => simp at hu
  · intro g c w' hown hgrow hat hlt
    exact h g c w' (hst.addN hR hb hgrow hat hown) hgrow.size (fun b hbl hv o => hgrow.cell_far _ hbl (fun e => hv e.symm)) ((hb.mono (by omega)).grown hgrow (by omega) (fun q hq => by have := (hst.n.lt q hq).1; omega))
/-- A type is appended to its row, in whatever world behind w5. -/
theorem stepT (hgd : o.guard = none) (s x : Operand) (ho : o.op = .call { callee := .builtin .append, args := #[s, x], argTypes := #[32, 32] }) (hst : RowSt w5 R nm xN xT vN j vT k vF m ee NM TY EL) (hR : R < w5.heap.size) (hk : k ≤ 1000) (hb : Below w5.heap.size w5 W)
    (bl : Nat) (hs : a.eval s = vT) (hx : a.eval x = .slice (some ⟨bl, 0, none⟩) 1 1) (hlit : Cells9 W bl 0 (TY k) (EL k))
    (h : ∀ g c w', RowSt w' R nm xN xT vN j (.slice (some ⟨g, 0, none⟩) (k + 1) c) (k + 1) vF m ee NM TY EL → W.heap.size ≤ w'.heap.size → (∀ b, b < W.heap.size → vT.ownBlock ≠ some b → ∀ o, w'.cell? ⟨b, o, none⟩ = W.cell? ⟨b, o, none⟩) → Below R w5 w' → K (a.put o.dst (.slice (some ⟨g, 0, none⟩) (k + 1) c)) w') :
    if Region.wanted o (yielded ops a.tmps) = true then Oper.wp Tryd.prog o a W K Q else E := by
  obtain ⟨y0, hy1, hy2, hy3, hy4⟩ := info_parts infoTyp
  have hz := hb.size
  refine step_append_lies W hgd s x 32 ho (R + 1) 34 y0 (tyV .void none) 9 80 Tryd.underlying32 hy1 hy2 hy3 hy4 rfl (by omega) vT k (typesL TY EL k) hs (ownsRow_below hst.t hb) ⟨bl, 0, none⟩ 1 1 (tyL (TY k) (EL k)) hx rfl (fun i u hu => ?_) (by simp [tyL, Value.oneCell']) (by omega) (by unfold maxLen; omega) (by omega) (by omega) W.heap.size rfl ?_
  · have hadd : (⟨bl, 0, none⟩ : Addr).add i = ⟨bl, i, none⟩ := by unfold Addr.add; split <;> simp_all
    rw [hadd]
    obtain ⟨c0, c1, c2, c3, c4, c5, c6, c7, c8⟩ := hlit
    simp only [Nat.zero_add] at c1 c2 c3 c4 c5 c6 c7 c8
    match i, hu with
    | 0, hu => rw [← hu]; exact c0
    | 1, hu => rw [← hu]; exact c1
    | 2, hu => rw [← hu]; exact c2
    | 3, hu => rw [← hu]; exact c3
    | 4, hu => rw [← hu]; exact c4
    | 5, hu => rw [← hu]; exact c5
    | 6, hu => rw [← hu]; exact c6
    | 7, hu => rw [← hu]; exact c7
    | 8, hu => rw [← hu]; exact c8
    | i + 9, hu => simp [tyL] at hu
  · intro g c w' hown hgrow hat hlt
    exact h g c w' (hst.addT hR hb hgrow hat hown) hgrow.size (fun b hbl hv o => hgrow.cell_far _ hbl (fun e => hv e.symm)) ((hb.mono (by omega)).grown hgrow (by omega) (fun q hq => by have := (hst.t.lt q hq).1; omega))
end
end Go.Proofs.YtoajcggiccfaiaaDoor
