import Derived.Test.YtdkhanjfncbfnaaCtCI
import Derived.Test.YtdkhanjfncbfnaaCtCH
namespace Go.Proofs.Ytdkhanjfncbfnaa
open Go Go.RowKit
set_option linter.unusedVariables false
set_option linter.unusedSimpArgs false

theorem LayM.congr {n : Nat} {CT CT' : Nat → Nat} {NM NM' : Nat → Nat → ByteArray} {TY TY' : Nat → Nat → Ty} {SZ SZ' AL AL' : Nat → Int} (h : LayM n CT NM TY SZ AL)
    (h1 : ∀ k, k < n → CT' k = CT k) (h2 : ∀ k, k < n → NM' k = NM k) (h3 : ∀ k, k < n → TY' k = TY k) (h4 : ∀ k, k < n → SZ' k = SZ k) (h5 : ∀ k, k < n → AL' k = AL k) : LayM n CT' NM' TY' SZ' AL' := by
  have e1 : ∀ k, k ≤ n → ∀ t, sizeM k SZ' t = sizeM k SZ t := by
    intro k hk t
    induction t with
    | void => rfl
    | int _ _ _ => rfl
    | ptr _ _ => rfl
    | arr t m ih => show timesM m _ = timesM m _; rw [ih]
    | st j =>
      unfold sizeM
      by_cases hj : 0 ≤ j ∧ j < k
      · rw [if_pos hj, if_pos hj]; exact h4 _ (by omega)
      · rw [if_neg hj, if_neg hj]
  have e2 : ∀ k, k ≤ n → ∀ t, alignM k AL' t = alignM k AL t := by
    intro k hk t
    induction t with
    | void => rfl
    | int _ _ _ => rfl
    | ptr _ _ => rfl
    | arr t m ih => exact ih
    | st j =>
      unfold alignM
      by_cases hj : 0 ≤ j ∧ j < k
      · rw [if_pos hj, if_pos hj]; exact h5 _ (by omega)
      · rw [if_neg hj, if_neg hj]
  have e3 : ∀ k, k ≤ n → ∀ T m, endT k SZ' AL' T m = endT k SZ AL T m ∧ alT k AL' T m = alT k AL T m := by
    intro k hk T m
    induction m with
    | zero => exact ⟨rfl, rfl⟩
    | succ m ih => unfold endT alT; rw [ih.1, ih.2, e1 k hk, e2 k hk]; exact ⟨rfl, rfl⟩
  refine ⟨h.n20, fun k hk => by rw [h1 k hk]; exact h.c k hk, fun k hk => by rw [h1 k hk, h3 k hk]; exact h.ok k hk, fun k hk => ?_, fun k hk => ?_, fun k hk => ?_⟩
  · rw [h1 k hk, h2 k hk, h3 k hk]
    exact ⟨fun i hi => by rw [e1 k (by omega)]; exact (h.r k hk).s i hi, fun i hi => by rw [(e3 k (by omega) _ _).1]; exact (h.r k hk).e i hi, (h.r k hk).d⟩
  · rw [h4 k hk, h3 k hk, h1 k hk, (e3 k (by omega) _ _).1, (e3 k (by omega) _ _).2]; exact h.sz k hk
  · rw [h5 k hk, h3 k hk, h1 k hk, (e3 k (by omega) _ _).2]; exact h.al k hk
theorem ba_eq {a b : ByteArray} (h : (a.toList == b.toList) = true) : a = b := by
  have h1 := eq_of_beq h
  rw [ByteArray.toList_eq, ByteArray.toList_eq] at h1
  cases a with | mk x => cases b with | mk y => exact congrArg ByteArray.mk (Array.ext' h1)

/-- Fields can be laid out, or there is a first fault. -/
theorem lay_decide (n : Nat) (SZ AL : Nat → Int) (NM : Nat → ByteArray) (TY : Nat → Ty) : ∀ m, RowOk n SZ AL m NM TY ∨ ∃ J code, J < m ∧ RowOk n SZ AL J NM TY ∧ FaultAt n SZ AL NM TY J code := by
  intro m
  induction m with
  | zero => exact Or.inl ⟨fun i hi => by omega, fun i hi => by omega, fun i hi => by omega⟩
  | succ m ih =>
    rcases ih with h | ⟨J, code, h1, h2, h3⟩
    · by_cases hd : ∀ j, j < m → ((NM j).toList == (NM m).toList) = false
      · by_cases hs : sizeM n SZ (TY m) = 0
        · exact Or.inr ⟨m, 14, by omega, h, Or.inr (Or.inl ⟨rfl, hd, hs⟩)⟩
        · by_cases he : 32768 < endT n SZ AL TY (m + 1)
          · exact Or.inr ⟨m, 5, by omega, h, Or.inr (Or.inr ⟨rfl, hd, hs, he⟩)⟩
          · refine Or.inl ⟨fun i hi => ?_, fun i hi => ?_, fun i hi => ?_⟩
            · by_cases hm : i < m
              · exact h.s i hm
              · obtain rfl : i = m := by omega
                exact hs
            · by_cases hm : i < m
              · exact h.e i hm
              · obtain rfl : i = m := by omega
                omega
            · by_cases hm : i < m
              · exact h.d i hm
              · obtain rfl : i = m := by omega
                exact hd
      · refine Or.inr ⟨m, 13, by omega, h, Or.inl ⟨rfl, ?_⟩⟩
        have hd' : ∃ j, j < m ∧ ¬ ((NM j).toList == (NM m).toList) = false := by
          refine Classical.byContradiction fun hc => hd fun j hj => ?_
          refine Classical.byContradiction fun hx => hc ⟨j, hj, hx⟩
        obtain ⟨j, hj, hx⟩ := hd'
        exact ⟨j, hj, ba_eq (by simpa using hx), fun i hi => h.d j hj i hi⟩
    · exact Or.inr ⟨J, code, by omega, h2, h3⟩
/-- A name stands among the first n, at a first place, or does not. -/
theorem name_decide (SN : Nat → ByteArray) (nm : ByteArray) : ∀ n, (∀ k, k < n → ((SN k).toList == nm.toList) = false) ∨ ∃ j, j < n ∧ ((SN j).toList == nm.toList) = true ∧ ∀ k, k < j → ((SN k).toList == nm.toList) = false := by
  intro n
  induction n with
  | zero => exact Or.inl fun k hk => by omega
  | succ n ih =>
    rcases ih with h | ⟨j, h1, h2, h3⟩
    · cases hx : ((SN n).toList == nm.toList) with
      | true => exact Or.inr ⟨n, by omega, hx, h⟩
      | false =>
        refine Or.inl fun k hk => ?_
        by_cases hkn : k < n
        · exact h k hkn
        · obtain rfl : k = n := by omega
          exact hx
    · exact Or.inr ⟨j, by omega, h2, h3⟩

theorem sizeM_congr {n : Nat} {SZ SZ' : Nat → Int} (h : ∀ k, k < n → SZ' k = SZ k) : ∀ t, sizeM n SZ' t = sizeM n SZ t := by
  intro t
  induction t with
  | void => rfl
  | int _ _ _ => rfl
  | ptr _ _ => rfl
  | arr t m ih => show timesM m _ = timesM m _; rw [ih]
  | st j =>
    unfold sizeM
    by_cases hj : 0 ≤ j ∧ j < n
    · rw [if_pos hj, if_pos hj]; exact h _ (by omega)
    · rw [if_neg hj, if_neg hj]
theorem alignM_congr {n : Nat} {AL AL' : Nat → Int} (h : ∀ k, k < n → AL' k = AL k) : ∀ t, alignM n AL' t = alignM n AL t := by
  intro t
  induction t with
  | void => rfl
  | int _ _ _ => rfl
  | ptr _ _ => rfl
  | arr t m ih => exact ih
  | st j =>
    unfold alignM
    by_cases hj : 0 ≤ j ∧ j < n
    · rw [if_pos hj, if_pos hj]; exact h _ (by omega)
    · rw [if_neg hj, if_neg hj]
theorem endT_congr {n : Nat} {SZ SZ' AL AL' : Nat → Int} (h1 : ∀ k, k < n → SZ' k = SZ k) (h2 : ∀ k, k < n → AL' k = AL k) (TY : Nat → Ty) : ∀ m, endT n SZ' AL' TY m = endT n SZ AL TY m ∧ alT n AL' TY m = alT n AL TY m := by
  intro m
  induction m with
  | zero => exact ⟨rfl, rfl⟩
  | succ m ih => unfold endT alT; rw [ih.1, ih.2, sizeM_congr h1, alignM_congr h2]; exact ⟨rfl, rfl⟩
theorem offT_congr {n : Nat} {SZ SZ' AL AL' : Nat → Int} (h1 : ∀ k, k < n → SZ' k = SZ k) (h2 : ∀ k, k < n → AL' k = AL k) (TY : Nat → Ty) : offT n SZ' AL' TY = offT n SZ AL TY := by
  funext i
  unfold offT
  rw [(endT_congr h1 h2 TY i).1, alignM_congr h2]

/-- One struct more. -/
theorem LayM.more {n : Nat} {CT : Nat → Nat} {NM : Nat → Nat → ByteArray} {TY : Nat → Nat → Ty} {SZ AL : Nat → Int} (h : LayM n CT NM TY SZ AL) (hn : n < 20) {m : Nat} (hm1 : 1 ≤ m) (hm2 : m ≤ 20) {NMr : Nat → ByteArray} {TYr : Nat → Ty} (ok : ∀ i, i < m → OkT (TYr i)) (hr : RowOk n SZ AL m NMr TYr) :
    LayM (n + 1) (upd CT n m) (upd NM n NMr) (upd TY n TYr) (upd SZ n (upM (endT n SZ AL TYr m) (alT n AL TYr m))) (upd AL n (alT n AL TYr m)) := by
  obtain ⟨S, hS⟩ : ∃ S, S = upd SZ n (upM (endT n SZ AL TYr m) (alT n AL TYr m)) := ⟨_, rfl⟩
  obtain ⟨A, hA⟩ : ∃ A, A = upd AL n (alT n AL TYr m) := ⟨_, rfl⟩
  have eS : ∀ k, k < n → S k = SZ k := fun k hk => by rw [hS]; exact upd_lt _ _ _ hk
  have eA : ∀ k, k < n → A k = AL k := fun k hk => by rw [hA]; exact upd_lt _ _ _ hk
  rw [← hS, ← hA]
  have hc := h.congr (CT' := upd CT n m) (NM' := upd NM n NMr) (TY' := upd TY n TYr) (SZ' := S) (AL' := A) (fun k hk => upd_lt _ _ _ hk) (fun k hk => upd_lt _ _ _ hk) (fun k hk => upd_lt _ _ _ hk) eS eA
  have part : ∀ k, k < n + 1 → k < n ∨ k = n := fun k hk => by omega
  refine ⟨by omega, fun k hk => ?_, fun k hk => ?_, fun k hk => ?_, fun k hk => ?_, fun k hk => ?_⟩
  · rcases part k hk with h1 | rfl
    · exact hc.c k h1
    · rw [upd_at]; exact ⟨hm1, hm2⟩
  · rcases part k hk with h1 | rfl
    · exact hc.ok k h1
    · rw [upd_at, upd_at]; exact ok
  · rcases part k hk with h1 | rfl
    · exact hc.r k h1
    · rw [upd_at, upd_at, upd_at]
      exact ⟨fun i hi => by rw [sizeM_congr eS]; exact hr.s i hi, fun i hi => by rw [(endT_congr eS eA _ _).1]; exact hr.e i hi, hr.d⟩
  · rcases part k hk with h1 | rfl
    · exact hc.sz k h1
    · rw [upd_at, upd_at, (endT_congr eS eA _ _).1, (endT_congr eS eA _ _).2, hS, upd_at]
  · rcases part k hk with h1 | rfl
    · exact hc.al k h1
    · rw [upd_at, upd_at, (endT_congr eS eA _ _).2, hA, upd_at]

section
variable {w w' : World} {tb n lb lc : Nat} {va : Value} {la : Option Addr} {SN : Nat → ByteArray} {CT : Nat → Nat} {NM : Nat → Nat → ByteArray} {TY : Nat → Nat → Ty} {SZ AL : Nat → Int} {FA : Nat → Option Addr} {FN FC GP : Nat → Nat} {ELP : Nat → Nat → Option Addr} {RV : Nat → Option Addr × Nat × Nat} {G CC : Nat → Nat} {ELR : Nat → Nat → Option Addr}
end
end Go.Proofs.Ytdkhanjfncbfnaa
