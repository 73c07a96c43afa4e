import Derived.Test.YtoajcggiccfaiaaDoorCtCC
import Derived.Test.YtoajcggiccfaiaaDoorCtCG
namespace Go.Proofs.YtoajcggiccfaiaaDoor
open Go Go.RowKit
set_option linter.unusedVariables false
set_option linter.unusedSimpArgs false

/-- The names' row of a struct. -/
def NmRow (w : World) (P : Nat → Prop) (v : Option Addr × Nat × Nat) (c : Nat) (NM : Nat → ByteArray) : Prop :=
  v.2.1 = c ∧ (0 < c → ∃ g, v.1 = some ⟨g, 0, none⟩ ∧ P g ∧ ∀ i, i < c → w.cell? ⟨g, i, none⟩ = some (.string (NM i)))
theorem NmRow.keep {w w' : World} {P Q : Nat → Prop} {v : Option Addr × Nat × Nat} {c : Nat} {NM : Nat → ByteArray} (h : NmRow w P v c NM) (hk : ∀ b, P b → ∀ o, w'.cell? ⟨b, o, none⟩ = w.cell? ⟨b, o, none⟩) (hq : ∀ b, P b → Q b) : NmRow w' Q v c NM :=
  ⟨h.1, fun hc => by
    obtain ⟨g, h1, h2, h3⟩ := h.2 hc
    exact ⟨g, h1, hq g h2, fun i hi => by rw [hk g h2]; exact h3 i hi⟩⟩

/-- The reference's list, all of it in blocks of which P holds. -/
structure RTabP (w : World) (P : Nat → Prop) (lb N lc : Nat) (la : Option Addr) (RN : Nat → ByteArray) (RV : Nat → Option Addr × Nat × Nat) (G CT CC : Nat → Nat) (NM : Nat → Nat → ByteArray) (TY : Nat → Nat → Ty) (EL : Nat → Nat → Option Addr) : Prop where
  a : 0 < N → la = some ⟨lb, 0, none⟩
  l : 0 < N → P lb
  r : ∀ k, k < N → R3 w lb (k * 3) (RN k) (.slice (RV k).1 (RV k).2.1 (RV k).2.2) (G k) (CT k) (CC k)
  g : ∀ k, k < N → P (G k)
  t : ∀ k, k < N → ∀ i, i < CT k → Cells9 w (G k) (i * 9) (TY k i) (EL k i) ∧ ElIn w P (TY k i) (EL k i)
  n : ∀ k, k < N → NmRow w P (RV k) (CT k) (NM k)
section
variable {w w' : World} {P Q : Nat → Prop} {lb N lc : Nat} {la : Option Addr} {RN : Nat → ByteArray} {RV : Nat → Option Addr × Nat × Nat} {G CT CC : Nat → Nat} {NM : Nat → Nat → ByteArray} {TY : Nat → Nat → Ty} {EL : Nat → Nat → Option Addr}
theorem RTabP.keep (h : RTabP w P lb N lc la RN RV G CT CC NM TY EL) (hk : ∀ b, P b → ∀ o, w'.cell? ⟨b, o, none⟩ = w.cell? ⟨b, o, none⟩) (hq : ∀ b, P b → Q b) : RTabP w' Q lb N lc la RN RV G CT CC NM TY EL :=
  ⟨h.a, fun hn => hq _ (h.l hn), fun k hl => (h.r k hl).same (hk lb (h.l (by omega))), fun k hl => hq _ (h.g k hl),
    fun k hl i hi => ⟨(h.t k hl i hi).1.same (hk _ (h.g k hl)), (h.t k hl i hi).2.keep hk hq⟩, fun k hl => (h.n k hl).keep hk hq⟩
theorem RTabP.tab (h : RTabP w P lb N lc la RN RV G CT CC NM TY EL) (hp : ∀ b, P b → b < w.heap.size) : RTab w lb N lc la RN RV G CT CC TY EL :=
  ⟨h.a, fun hn => hp _ (h.l hn), h.r, fun k hl => hp _ (h.g k hl), fun k hl i hi => ⟨(h.t k hl i hi).1, (h.t k hl i hi).2.elAt⟩⟩
end

/-- The rows of the program's structs. -/
structure PRows (w : World) (P : Nat → Prop) (n : Nat) (FA : Nat → Option Addr) (FN : Nat → Nat) (GP CT : Nat → Nat) (NM : Nat → Nat → ByteArray) (TY : Nat → Nat → Ty) (EL : Nat → Nat → Option Addr) (SZ AL : Nat → Int) : Prop where
  a : ∀ k, k < n → FA k = some ⟨GP k, 0, none⟩ ∧ FN k = CT k ∧ P (GP k)
  r : ∀ k, k < n → GRow w (GP k) (CT k) (NM k) (TY k) (EL k) (offT k SZ AL (TY k))
  t : ∀ k, k < n → ∀ i, i < CT k → ElIn w P (TY k i) (EL k i)
theorem PRows.keep {w w' : World} {P Q : Nat → Prop} {n : Nat} {FA : Nat → Option Addr} {FN : Nat → Nat} {GP CT : Nat → Nat} {NM : Nat → Nat → ByteArray} {TY : Nat → Nat → Ty} {EL : Nat → Nat → Option Addr} {SZ AL : Nat → Int}
    (h : PRows w P n FA FN GP CT NM TY EL SZ AL) (hk : ∀ b, P b → ∀ o, w'.cell? ⟨b, o, none⟩ = w.cell? ⟨b, o, none⟩) (hq : ∀ b, P b → Q b) : PRows w' Q n FA FN GP CT NM TY EL SZ AL :=
  ⟨fun k hl => ⟨(h.a k hl).1, (h.a k hl).2.1, hq _ (h.a k hl).2.2⟩, fun k hl => (h.r k hl).same (hk _ (h.a k hl).2.2), fun k hl i hi => (h.t k hl i hi).keep hk hq⟩

/-- Both tables, as the law has built them: n structs. -/
structure Both (w : World) (tb n : Nat) (va : Value) (lb lc : Nat) (la : Option Addr) (SN : Nat → ByteArray) (CT : Nat → Nat) (NM : Nat → Nat → ByteArray) (TY : Nat → Nat → Ty) (SZ AL : Nat → Int) (FA : Nat → Option Addr) (FN FC GP : Nat → Nat) (ELP : Nat → Nat → Option Addr) (RV : Nat → Option Addr × Nat × Nat) (G CC : Nat → Nat) (ELR : Nat → Nat → Option Addr) : Prop where
  w1 : TabW w tb (tb + 1) va n SN FA FN FC SZ AL
  p : PRows w (PB (tb + 1) va w) n FA FN GP CT NM TY ELP SZ AL
  r : RTabP w (PB (tb + 1) va w) lb n lc la SN RV G CT CC NM TY ELR
  m : LayM n CT NM TY SZ AL
  d : ∀ k, k < n → ∀ j, j < k → ((SN j).toList == (SN k).toList) = false
end Go.Proofs.YtoajcggiccfaiaaDoor
