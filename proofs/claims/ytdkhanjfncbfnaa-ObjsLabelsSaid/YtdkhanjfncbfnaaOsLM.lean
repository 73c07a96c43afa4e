import Derived.Test.YtdkhanjfncbfnaaOsLL
import Derived.Test.YtdkhanjfncbfnaaCtCQ
import Derived.Test.YtdkhanjfncbfnaaCtK
import Derived.Deep.AppendLies
namespace Go.Proofs.Ytdkhanjfncbfnaa
open Go Go.RowKit
set_option linter.unusedVariables false
set_option linter.unusedSimpArgs false

theorem Steps.below {w w' : World} {a : Option Addr} {len : Nat} (h : Steps w a len) (hl : 0 < len → ∀ x, a = some x → x.block < w.heap.size) (hb : Below w.heap.size w w') : Steps w' a len := by
  rcases h with h | ⟨b, off, rfl, h⟩
  · exact .inl h
  · refine .inr ⟨b, off, rfl, fun i hi => ?_⟩
    obtain ⟨p, q, h1, h2⟩ := h i hi
    have hlt := hl (by omega) _ rfl
    exact ⟨p, q, by rw [hb.cell (by exact hlt)]; exact h1, by rw [hb.cell (by exact hlt)]; exact h2⟩
def NamesIn (w : World) (a : Option Addr) (n : Nat) : Prop := n = 0 ∨ ∃ b off : Nat, a = some ⟨b, off, none⟩ ∧ ∀ i, i < n → ∃ s : ByteArray, w.cell? ⟨b, off + i, none⟩ = some (.string s)
def ShapesIn (w : World) (a : Option Addr) (n : Nat) : Prop := n = 0 ∨ ∃ b off : Nat, a = some ⟨b, off, none⟩ ∧ ∀ i, i < n → ∃ (k : Int) (sa : Option Addr) (sl sc : Nat), w.cell? ⟨b, off + i * 2, none⟩ = some (.int .i64 k) ∧ w.cell? ⟨b, off + i * 2 + 1, none⟩ = some (.slice sa sl sc) ∧ sl ≤ 9223372036854775807 ∧ Steps w sa sl ∧ (0 < sl → ∀ x, sa = some x → x.block < w.heap.size)
/-- The records that came in. -/
def RecsIn (w : World) (a : Option Addr) (len : Nat) : Prop := len = 0 ∨ ∃ b off : Nat, a = some ⟨b, off, none⟩ ∧ ∀ i, i < len → ∃ (nm : ByteArray) (va : Option Addr) (vn vc : Nat) (sa : Option Addr) (sn sc : Nat), w.cell? ⟨b, off + i * 3, none⟩ = some (.string nm) ∧ w.cell? ⟨b, off + i * 3 + 1, none⟩ = some (.slice va vn vc) ∧ w.cell? ⟨b, off + i * 3 + 2, none⟩ = some (.slice sa sn sc) ∧ vn ≤ 9223372036854775807 ∧ sn ≤ 9223372036854775807 ∧ NamesIn w va vn ∧ ShapesIn w sa sn
theorem NamesIn.below {w w' : World} {a : Option Addr} {n : Nat} (h : NamesIn w a n) (hb : Below w.heap.size w w') : NamesIn w' a n := by
  rcases h with h | ⟨b, off, ha, h⟩
  · exact Or.inl h
  · exact Or.inr ⟨b, off, ha, fun i hi => by
      obtain ⟨s, hs⟩ := h i hi
      exact ⟨s, by rw [hb.cell (World.block_lt_of_cell? w _ hs)]; exact hs⟩⟩
theorem ShapesIn.below {w w' : World} {a : Option Addr} {n : Nat} (h : ShapesIn w a n) (hb : Below w.heap.size w w') : ShapesIn w' a n := by
  rcases h with h | ⟨b, off, ha, h⟩
  · exact Or.inl h
  · refine Or.inr ⟨b, off, ha, fun i hi => ?_⟩
    obtain ⟨k, sa, sl, sc, h1, h2, h3, h4, h5⟩ := h i hi
    exact ⟨k, sa, sl, sc, by rw [hb.cell (World.block_lt_of_cell? w _ h1)]; exact h1, by rw [hb.cell (World.block_lt_of_cell? w _ h2)]; exact h2, h3, h4.below h5 hb, fun hp x hx => Nat.lt_of_lt_of_le (h5 hp x hx) hb.size⟩
/-- The fields of a record, as far as the law has read them: k of them, all made behind Z. -/
structure FS (Z : World) (k : Nat) (vF : Value) (wq : World) (NM : Nat → ByteArray) (TY : Nat → Ty) (EL : Nat → Option Addr) : Prop where
  o : wq.ownsRow Z.heap.size 61 11 vF k (cellsT NM TY EL (fun _ => 0) k)
  ok : ∀ j, j < k → OkT (TY j)
  e : ∀ j, j < k → ElIn wq (fun b => Z.heap.size ≤ b ∧ b < wq.heap.size ∧ vF.ownBlock ≠ some b) (TY j) (EL j)
  b : Below Z.heap.size Z wq
  z : k = 0 → vF = .slice none 0 0
theorem FS.below {Z wq w' : World} {k : Nat} {vF : Value} {NM : Nat → ByteArray} {TY : Nat → Ty} {EL : Nat → Option Addr} (h : FS Z k vF wq NM TY EL) (hb : Below wq.heap.size wq w') : FS Z k vF w' NM TY EL :=
  ⟨ownsRow_below h.o hb, h.ok, fun j hj => (h.e j hj).keep (fun b hp o => hb.cell (p := ⟨b, o, none⟩) hp.2.1) (fun b hp => ⟨hp.1, Nat.lt_of_lt_of_le hp.2.1 hb.size, hp.2.2⟩), h.b.trans (hb.mono h.b.size), h.z⟩
theorem FS.next {Z wq : World} {k : Nat} {vF : Value} {NM : Nat → ByteArray} {TY : Nat → Ty} {EL : Nat → Option Addr} (h : FS Z k vF wq NM TY EL) (s : ByteArray) (t : Ty) (el : Option Addr) : FS Z k vF wq (upd NM k s) (upd TY k t) (upd EL k el) := by
  have hF : ∀ j, j ≤ k → cellsT (upd NM k s) (upd TY k t) (upd EL k el) (fun _ => 0) j = cellsT NM TY EL (fun _ => 0) j := by
    intro j
    induction j with
    | zero => intro _; rfl
    | succ j ih => intro hj; rw [cellsT, cellsT, ih (by omega), upd_lt _ _ _ (by omega), upd_lt _ _ _ (by omega), upd_lt _ _ _ (by omega)]
  exact ⟨by rw [hF k (Nat.le_refl _)]; exact h.o, fun j hj => by rw [upd_lt _ _ _ hj]; exact h.ok j hj, fun j hj => by rw [upd_lt _ _ _ hj, upd_lt _ _ _ hj]; exact h.e j hj, h.b, h.z⟩
theorem FS.push {Z wq wa w' : World} {k g c : Nat} {vF : Value} {NM : Nat → ByteArray} {TY : Nat → Ty} {EL : Nat → Option Addr} (h : FS Z k vF wq NM TY EL) (hb : Below wq.heap.size wq wa) (ok : OkT (TY k)) (he : ElIn wa (fun b => wq.heap.size ≤ b ∧ b < wa.heap.size) (TY k) (EL k)) (hg : wa.grownBy w' vF.ownBlock) (hat : vF.ownBlock = some g ∨ g = wa.heap.size)
    (hown : w'.ownsRow Z.heap.size 61 11 (.slice (some ⟨g, 0, none⟩) (k + 1) c) (k + 1) (cellsT NM TY EL (fun _ => 0) (k + 1))) : FS Z (k + 1) (.slice (some ⟨g, 0, none⟩) (k + 1) c) w' NM TY EL := by
  have hz := h.b.size
  have ha := h.below hb
  have hgb : ∀ b, (Value.slice (some ⟨g, 0, none⟩) (k + 1) c).ownBlock = some b → g = b := fun b e => by simpa [Value.ownBlock] using e
  refine ⟨hown, fun j hj => ?_, fun j hj => ?_, ?_, fun h => by omega⟩
  · by_cases hjk : j < k
    · exact h.ok j hjk
    · obtain rfl : j = k := by omega
      exact ok
  · by_cases hjk : j < k
    · refine (ha.e j hjk).keep (fun b hp o => hg.cell_far _ hp.2.1 (fun e => hp.2.2 e.symm)) (fun b hp => ⟨hp.1, Nat.lt_of_lt_of_le hp.2.1 hg.size, fun e => ?_⟩)
      have := hgb b e
      rcases hat with h1 | h1
      · rw [this] at h1; exact hp.2.2 h1
      · have := hp.2.1; omega
    · obtain rfl : j = k := by omega
      have hlt := h.o.lt
      refine he.keep (fun b hp o => hg.cell_far _ hp.2 (fun e => by have := (hlt b e.symm).2; omega)) (fun b hp => ⟨by omega, Nat.lt_of_lt_of_le hp.2 hg.size, fun e => ?_⟩)
      have := hgb b e
      rcases hat with h1 | h1
      · have := (hlt g h1).2; omega
      · have := hp.2; omega
  · exact ((h.b.trans (hb.mono hz)).grown hg (Nat.le_trans hz hb.size) (fun q hq => (h.o.lt q hq).1))
theorem Built1.tabk {w : World} {tb n : Nat} (h : Built1 w tb n) : ∃ T : Tb, T.tb = tb ∧ LayT T ∧ TabK T w.heap.size w := by
  have htl := h.lt
  obtain ⟨va, SN, CT, NM, TY, SZ, AL, FA, FN, FC, GP, EL, h⟩ := h
  obtain ⟨a, rb, rc, _, htn⟩ := h.w1.tab
  exact ⟨⟨tb, rb, n, rc, a, SN, FA, FN, FC, SZ, AL, GP, CT, NM, TY, EL⟩, rfl, h.m, ⟨htn, htl, fun hn => htn.l hn, h.p.keep (fun b hb o => rfl) (fun b hb => hb.2.1), Nat.le_refl _⟩⟩
theorem okT_sec : ∀ t, OkT t → OkT (secT t) := by
  intro t
  induction t with
  | void => intro h; exact h
  | int k b c => intro h; exact h
  | ptr t ih => intro h; exact h
  | arr t m ih => intro h; exact ⟨h.1, h.2.1, ih h.2.2⟩
  | st j => intro h; exact h
theorem sizeM_sec (n : Nat) (SZ : Nat → Int) : ∀ t, sizeM n SZ (secT t) = sizeM n SZ t := by
  intro t
  induction t with
  | void => rfl
  | int k b c => rfl
  | ptr t ih => rfl
  | arr t m ih => show timesM m (sizeM n SZ (secT t)) = timesM m (sizeM n SZ t); rw [ih]
  | st j => rfl
end Go.Proofs.Ytdkhanjfncbfnaa
