import Derived.Test.YtoajcggiccfaiaaDoorCtCO
import Derived.Test.YtoajcggiccfaiaaDoorCtCH
namespace Go.Proofs.YtoajcggiccfaiaaDoor
open Go Go.RowKit
set_option linter.unusedVariables false
set_option linter.unusedSimpArgs false

theorem ba_eq {a b : ByteArray} (h : (a.toList == b.toList) = true) : a = b := by
  have h1 := eq_of_beq h
  rw [ByteArray.toList_eq, ByteArray.toList_eq] at h1
  cases a with | mk x => cases b with | mk y => exact congrArg ByteArray.mk (Array.ext' h1)

/-- Fields can be laid out, or there is a first fault. -/
theorem lay_decide (n : Nat) (SZ AL : Nat → Int) (NM : Nat → ByteArray) (TY : Nat → Ty) : ∀ m, RowOk n SZ AL m NM TY ∨ ∃ J code, J < m ∧ RowOk n SZ AL J NM TY ∧ FaultAt n SZ AL NM TY J code := by
  intro m
  induction m with
  | zero => exact Or.inl ⟨fun i hi => by omega, fun i hi => by omega, fun i hi => by omega⟩
  | succ m ih =>
    rcases ih with h | ⟨J, code, h1, h2, h3⟩
    · by_cases hd : ∀ j, j < m → ((NM j).toList == (NM m).toList) = false
      · by_cases hs : sizeM n SZ (TY m) = 0
        · exact Or.inr ⟨m, 14, by omega, h, Or.inr (Or.inl ⟨rfl, hd, hs⟩)⟩
        · by_cases he : 32768 < endT n SZ AL TY (m + 1)
          · exact Or.inr ⟨m, 5, by omega, h, Or.inr (Or.inr ⟨rfl, hd, hs, he⟩)⟩
          · refine Or.inl ⟨fun i hi => ?_, fun i hi => ?_, fun i hi => ?_⟩
            · by_cases hm : i < m
              · exact h.s i hm
              · obtain rfl : i = m := by omega
                exact hs
            · by_cases hm : i < m
              · exact h.e i hm
              · obtain rfl : i = m := by omega
                omega
            · by_cases hm : i < m
              · exact h.d i hm
              · obtain rfl : i = m := by omega
                exact hd
      · refine Or.inr ⟨m, 13, by omega, h, Or.inl ⟨rfl, ?_⟩⟩
        have hd' : ∃ j, j < m ∧ ¬ ((NM j).toList == (NM m).toList) = false := by
          refine Classical.byContradiction fun hc => hd fun j hj => ?_
          refine Classical.byContradiction fun hx => hc ⟨j, hj, hx⟩
        obtain ⟨j, hj, hx⟩ := hd'
        exact ⟨j, hj, ba_eq (by simpa using hx), fun i hi => h.d j hj i hi⟩
    · exact Or.inr ⟨J, code, by omega, h2, h3⟩
/-- A name stands among the first n, at a first place, or does not. -/
theorem name_decide (SN : Nat → ByteArray) (nm : ByteArray) : ∀ n, (∀ k, k < n → ((SN k).toList == nm.toList) = false) ∨ ∃ j, j < n ∧ ((SN j).toList == nm.toList) = true ∧ ∀ k, k < j → ((SN k).toList == nm.toList) = false := by
  intro n
  induction n with
  | zero => exact Or.inl fun k hk => by omega
  | succ n ih =>
    rcases ih with h | ⟨j, h1, h2, h3⟩
    · cases hx : ((SN n).toList == nm.toList) with
      | true => exact Or.inr ⟨n, by omega, hx, h⟩
      | false =>
        refine Or.inl fun k hk => ?_
        by_cases hkn : k < n
        · exact h k hkn
        · obtain rfl : k = n := by omega
          exact hx
    · exact Or.inr ⟨j, by omega, h2, h3⟩

theorem sizeM_congr {n : Nat} {SZ SZ' : Nat → Int} (h : ∀ k, k < n → SZ' k = SZ k) : ∀ t, sizeM n SZ' t = sizeM n SZ t := by
  intro t
  induction t with
  | void => rfl
  | int _ _ _ => rfl
  | ptr _ _ => rfl
  | arr t m ih => show timesM m _ = timesM m _; rw [ih]
  | st j =>
    unfold sizeM
    by_cases hj : 0 ≤ j ∧ j < n
    · rw [if_pos hj, if_pos hj]; exact h _ (by omega)
    · rw [if_neg hj, if_neg hj]
theorem alignM_congr {n : Nat} {AL AL' : Nat → Int} (h : ∀ k, k < n → AL' k = AL k) : ∀ t, alignM n AL' t = alignM n AL t := by
  intro t
  induction t with
  | void => rfl
  | int _ _ _ => rfl
  | ptr _ _ => rfl
  | arr t m ih => exact ih
  | st j =>
    unfold alignM
    by_cases hj : 0 ≤ j ∧ j < n
    · rw [if_pos hj, if_pos hj]; exact h _ (by omega)
    · rw [if_neg hj, if_neg hj]
theorem endT_congr {n : Nat} {SZ SZ' AL AL' : Nat → Int} (h1 : ∀ k, k < n → SZ' k = SZ k) (h2 : ∀ k, k < n → AL' k = AL k) (TY : Nat → Ty) : ∀ m, endT n SZ' AL' TY m = endT n SZ AL TY m ∧ alT n AL' TY m = alT n AL TY m := by
  intro m
  induction m with
  | zero => exact ⟨rfl, rfl⟩
  | succ m ih => unfold endT alT; rw [ih.1, ih.2, sizeM_congr h1, alignM_congr h2]; exact ⟨rfl, rfl⟩
theorem offT_congr {n : Nat} {SZ SZ' AL AL' : Nat → Int} (h1 : ∀ k, k < n → SZ' k = SZ k) (h2 : ∀ k, k < n → AL' k = AL k) (TY : Nat → Ty) : offT n SZ' AL' TY = offT n SZ AL TY := by
  funext i
  unfold offT
  rw [(endT_congr h1 h2 TY i).1, alignM_congr h2]

/-- One struct more. -/
theorem LayM.more {n : Nat} {CT : Nat → Nat} {NM : Nat → Nat → ByteArray} {TY : Nat → Nat → Ty} {SZ AL : Nat → Int} (h : LayM n CT NM TY SZ AL) (hn : n < 20) {m : Nat} (hm1 : 1 ≤ m) (hm2 : m ≤ 20) {NMr : Nat → ByteArray} {TYr : Nat → Ty} (ok : ∀ i, i < m → OkT (TYr i)) (hr : RowOk n SZ AL m NMr TYr) :
    LayM (n + 1) (upd CT n m) (upd NM n NMr) (upd TY n TYr) (upd SZ n (upM (endT n SZ AL TYr m) (alT n AL TYr m))) (upd AL n (alT n AL TYr m)) := by
  obtain ⟨S, hS⟩ : ∃ S, S = upd SZ n (upM (endT n SZ AL TYr m) (alT n AL TYr m)) := ⟨_, rfl⟩
  obtain ⟨A, hA⟩ : ∃ A, A = upd AL n (alT n AL TYr m) := ⟨_, rfl⟩
  have eS : ∀ k, k < n → S k = SZ k := fun k hk => by rw [hS]; exact upd_lt _ _ _ hk
  have eA : ∀ k, k < n → A k = AL k := fun k hk => by rw [hA]; exact upd_lt _ _ _ hk
  rw [← hS, ← hA]
  have hc := h.congr (CT' := upd CT n m) (NM' := upd NM n NMr) (TY' := upd TY n TYr) (SZ' := S) (AL' := A) (fun k hk => upd_lt _ _ _ hk) (fun k hk => upd_lt _ _ _ hk) (fun k hk => upd_lt _ _ _ hk) eS eA
  have part : ∀ k, k < n + 1 → k < n ∨ k = n := fun k hk => by omega
  refine ⟨by omega, fun k hk => ?_, fun k hk => ?_, fun k hk => ?_, fun k hk => ?_, fun k hk => ?_⟩
  · rcases part k hk with h1 | rfl
    · exact hc.c k h1
    · rw [upd_at]; exact ⟨hm1, hm2⟩
  · rcases part k hk with h1 | rfl
    · exact hc.ok k h1
    · rw [upd_at, upd_at]; exact ok
  · rcases part k hk with h1 | rfl
    · exact hc.r k h1
    · rw [upd_at, upd_at, upd_at]
      exact ⟨fun i hi => by rw [sizeM_congr eS]; exact hr.s i hi, fun i hi => by rw [(endT_congr eS eA _ _).1]; exact hr.e i hi, hr.d⟩
  · rcases part k hk with h1 | rfl
    · exact hc.sz k h1
    · rw [upd_at, upd_at, (endT_congr eS eA _ _).1, (endT_congr eS eA _ _).2, hS, upd_at]
  · rcases part k hk with h1 | rfl
    · exact hc.al k h1
    · rw [upd_at, upd_at, (endT_congr eS eA _ _).2, hA, upd_at]

section
variable {w w' : World} {tb n lb lc : Nat} {va : Value} {la : Option Addr} {SN : Nat → ByteArray} {CT : Nat → Nat} {NM : Nat → Nat → ByteArray} {TY : Nat → Nat → Ty} {SZ AL : Nat → Int} {FA : Nat → Option Addr} {FN FC GP : Nat → Nat} {ELP : Nat → Nat → Option Addr} {RV : Nat → Option Addr × Nat × Nat} {G CC : Nat → Nat} {ELR : Nat → Nat → Option Addr}
theorem Both.below (h : Both w tb n va lb lc la SN CT NM TY SZ AL FA FN FC GP ELP RV G CC ELR) (hb : Below w.heap.size w w') : Both w' tb n va lb lc la SN CT NM TY SZ AL FA FN FC GP ELP RV G CC ELR :=
  ⟨h.w1.below hb, h.p.keep (fun b hp o => hb.cell (p := ⟨b, o, none⟩) hp.2.1) (fun b hp => ⟨hp.1, Nat.lt_of_lt_of_le hp.2.1 hb.size, hp.2.2⟩),
    h.r.keep (fun b hp o => hb.cell (p := ⟨b, o, none⟩) hp.2.1) (fun b hp => ⟨hp.1, Nat.lt_of_lt_of_le hp.2.1 hb.size, hp.2.2⟩), h.m, h.d⟩

/-- Both tables with one struct more. -/
theorem Both.more (h : Both w tb n va lb lc la SN CT NM TY SZ AL FA FN FC GP ELP RV G CC ELR) (hn : n < 20) {m : Nat} (hm1 : 1 ≤ m) (hm2 : m ≤ 20) {nm : ByteArray} {NMr : Nat → ByteArray} {TYr : Nat → Ty} {ELr : Nat → Option Addr} (ok : ∀ i, i < m → OkT (TYr i)) (hr : RowOk n SZ AL m NMr TYr)
    (hne : ∀ k, k < n → ((SN k).toList == nm.toList) = false) {wA w1 : World} (hbA : Below w.heap.size w wA)
    (hOk : ∃ e, AddOk tb (tb + 1) n va SN FA FN FC SZ AL nm m NMr TYr wA e w1)
    {vNa vTa : Option Addr} {gN gT cN cT lb' lc' : Nat} (hvn : vNa = some ⟨gN, 0, none⟩) {xb : Nat}
    (hown : w'.ownsRow xb 65 3 (.slice (some ⟨lb', 0, none⟩) (n + 1) lc') (n + 1) (recs3 (upd SN n nm) (upd RV n (vNa, m, cN)) (upd G n gT) (upd CT n m) (upd CC n cT) (n + 1))) (hxb : w1.heap.size ≤ xb) (hb1 : Below w1.heap.size w1 w')
    (hgN : PB (tb + 1) va wA gN) (hgT : PB (tb + 1) va wA gT) (hNm : ∀ i, i < m → wA.cell? ⟨gN, i, none⟩ = some (.string (NMr i))) (hTy : ∀ i, i < m → Cells9 wA gT (i * 9) (TYr i) (ELr i) ∧ ElIn wA (PB (tb + 1) va wA) (TYr i) (ELr i)) :
    ∃ va' FA' FN' FC' GP' ELP', Both w' tb (n + 1) va' lb' lc' (some ⟨lb', 0, none⟩) (upd SN n nm) (upd CT n m) (upd NM n NMr) (upd TY n TYr) (upd SZ n (upM (endT n SZ AL TYr m) (alT n AL TYr m))) (upd AL n (alT n AL TYr m)) FA' FN' FC' GP' ELP' (upd RV n (vNa, m, cN)) (upd G n gT) (upd CC n cT) (upd ELR n ELr) := by
  obtain ⟨e, va', g, c, EL, he, htab, hrow, hg1, hg2, hg3, hels, hkeep, hsz, hbt⟩ := hOk
  have hA := h.below hbA
  have htl := World.block_lt_of_cell? wA _ hA.w1.t
  simp at htl
  have hvl := htab.o.lt
  have hk1 : ∀ b, PB (tb + 1) va wA b → ∀ o, w1.cell? ⟨b, o, none⟩ = wA.cell? ⟨b, o, none⟩ := fun b hp o => (hkeep b hp.2.1 (by have := hp.1; omega) hp.2.2).1 o
  have hq1 : ∀ b, PB (tb + 1) va wA b → PB (tb + 1) va' w1 b := fun b hp => ⟨hp.1, Nat.lt_of_lt_of_le hp.2.1 hsz, (hkeep b hp.2.1 (by have := hp.1; omega) hp.2.2).2⟩
  have hk2 : ∀ b, PB (tb + 1) va' w1 b → ∀ o, w'.cell? ⟨b, o, none⟩ = w1.cell? ⟨b, o, none⟩ := fun b hp o => hb1.cell (p := ⟨b, o, none⟩) hp.2.1
  have hq2 : ∀ b, PB (tb + 1) va' w1 b → PB (tb + 1) va' w' b := fun b hp => ⟨hp.1, Nat.lt_of_lt_of_le hp.2.1 hb1.size, hp.2.2⟩
  have hpr := (hA.p.keep hk1 hq1).keep hk2 hq2
  have hrr := (hA.r.keep hk1 hq1).keep hk2 hq2
  have hm := h.m.more hn hm1 hm2 ok hr
  have part : ∀ k, k < n + 1 → k < n ∨ k = n := fun k hk => by omega
  have eS : ∀ k, k < n → (upd SZ n (upM (endT n SZ AL TYr m) (alT n AL TYr m))) k = SZ k := fun k hk => upd_lt _ _ _ hk
  have eA : ∀ k, k < n → (upd AL n (alT n AL TYr m)) k = AL k := fun k hk => upd_lt _ _ _ hk
  have hlb : lb' < w'.heap.size ∧ xb ≤ lb' := ⟨(hown.lt lb' rfl).2, (hown.lt lb' rfl).1⟩
  have hgp : PB (tb + 1) va' w1 g := ⟨by omega, hg2, hg3⟩
  refine ⟨va', upd FA n (some ⟨g, 0, none⟩), upd FN n m, upd FC n c, upd GP n g, upd ELP n EL, htab.below hb1, ⟨fun k hk => ?_, fun k hk => ?_, fun k hk => ?_⟩, ⟨fun _ => rfl, fun _ => ⟨by omega, hlb.1, fun hx => ?_⟩, r3_of_owns hown, fun k hk => ?_, fun k hk => ?_, fun k hk => ?_⟩, hm, fun k hk => ?_⟩
  · rcases part k hk with h1 | rfl
    · rw [upd_lt _ _ _ h1, upd_lt _ _ _ h1, upd_lt _ _ _ h1, upd_lt _ _ _ h1]; exact hpr.a k h1
    · rw [upd_at, upd_at, upd_at, upd_at]; exact ⟨rfl, rfl, hq2 g hgp⟩
  · rcases part k hk with h1 | rfl
    · rw [upd_lt _ _ _ h1, upd_lt _ _ _ h1, upd_lt _ _ _ h1, upd_lt _ _ _ h1, upd_lt _ _ _ h1, offT_congr (fun j hj => eS j (by omega)) (fun j hj => eA j (by omega))]; exact hpr.r k h1
    · rw [upd_at, upd_at, upd_at, upd_at, upd_at, offT_congr eS eA]; exact hrow.below hb1 hg2
  · rcases part k hk with h1 | rfl
    · rw [upd_lt _ _ _ h1, upd_lt _ _ _ h1, upd_lt _ _ _ h1]; exact hpr.t k h1
    · rw [upd_at, upd_at, upd_at]
      intro i hi
      exact (hels i hi).keep (fun b hp o => hb1.cell (p := ⟨b, o, none⟩) hp.2.1) (fun b hp => ⟨by have := hp.1; omega, Nat.lt_of_lt_of_le hp.2.1 hb1.size, hp.2.2⟩)
  · have := (hvl lb' hx).2
    omega
  · rcases part k hk with h1 | rfl
    · rw [upd_lt _ _ _ h1]; exact hrr.g k h1
    · rw [upd_at]; exact hq2 gT (hq1 gT hgT)
  · rcases part k hk with h1 | rfl
    · rw [upd_lt _ _ _ h1, upd_lt _ _ _ h1, upd_lt _ _ _ h1, upd_lt _ _ _ h1]; exact hrr.t k h1
    · rw [upd_at, upd_at, upd_at, upd_at]
      intro i hi
      exact ⟨((hTy i hi).1.same (hk1 gT hgT)).same (hk2 gT (hq1 gT hgT)), ((hTy i hi).2.keep hk1 hq1).keep hk2 hq2⟩
  · rcases part k hk with h1 | rfl
    · rw [upd_lt _ _ _ h1, upd_lt _ _ _ h1, upd_lt _ _ _ h1]; exact hrr.n k h1
    · rw [upd_at, upd_at, upd_at]
      exact ⟨rfl, fun _ => ⟨gN, hvn, hq2 gN (hq1 gN hgN), fun i hi => by rw [hk2 gN (hq1 gN hgN), hk1 gN hgN]; exact hNm i hi⟩⟩
  · rcases part k hk with h1 | rfl
    · intro j hj
      rw [upd_lt _ _ _ (by omega : j < n), upd_lt _ _ _ h1]; exact h.d k h1 j hj
    · intro j hj
      rw [upd_lt _ _ _ hj, upd_at]; exact hne j hj
end
end Go.Proofs.YtoajcggiccfaiaaDoor
