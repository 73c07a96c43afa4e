import Derived.Test.YtamimaoaafapbaaDoorLexR
import Derived.Test.YtamimaoaafapbaaDoorLexJ
namespace Go.Proofs.YtamimaoaafapbaaDoor
open Go

theorem runLen_take (p : UInt8 → Bool) (l : List UInt8) : ∀ n, runLen p l ≤ n → runLen p (l.take n) = runLen p l := by
  unfold runLen
  induction l with
  | nil => intro n _; simp
  | cons c t ih =>
    intro n h
    rw [List.takeWhile_cons] at h ⊢
    cases n with
    | zero =>
      by_cases hp : p c = true
      · rw [if_pos hp] at h; simp at h
      · rw [if_neg hp]; simp
    | succ n =>
      rw [List.take_succ_cons, List.takeWhile_cons]
      by_cases hp : p c = true
      · rw [if_pos hp] at h
        rw [if_pos hp, if_pos hp]
        simp only [List.length_cons] at h ⊢
        rw [ih n (by omega)]
      · rw [if_neg hp, if_neg hp]
theorem pre_take2 (l : List UInt8) (a b : UInt8) (n : Nat) (hn : 2 ≤ n) (h : Lib.hasPrefix l [a, b] = true) : Lib.hasPrefix (l.take n) [a, b] = true := by
  obtain ⟨t, rfl⟩ := pre_len h
  obtain ⟨m, rfl⟩ : ∃ m, n = m + 2 := ⟨n - 2, by omega⟩
  simp [Lib.hasPrefix, List.isPrefixOf]
theorem occ_take (l : List UInt8) (n i : Nat) (h : Lib.occAt l [42, 47] i = false) : Lib.occAt (l.take n) [42, 47] i = false := by
  rw [← Bool.not_eq_true] at h ⊢
  intro h2
  apply h
  unfold Lib.occAt at h2 ⊢
  rw [List.isPrefixOf_iff_prefix] at h2 ⊢
  rw [List.drop_take] at h2
  exact h2.trans (List.take_prefix _ _)
theorem blank_take (l : List UInt8) (n : Nat) (h0 : blank l ≠ 0) (hn : blank l ≤ n) : blank (l.take n) = blank l := by
  cases h1 : Lib.hasPrefix l [47, 47] with
  | true =>
    rw [blank_line l h1] at h0 hn ⊢
    have h2 : 2 ≤ runLen (fun c => c != 10) l := by
      obtain ⟨t, rfl⟩ := pre_len h1
      simp [runLen]
    rw [blank_line _ (pre_take2 l 47 47 n (by omega) h1), runLen_take _ _ _ hn]
  | false =>
    cases h2 : Lib.hasPrefix l [47, 42] with
    | true =>
      rcases Lib.index_spec (l.drop 2) [42, 47] with ⟨hx, _⟩ | ⟨i, hx, hi, ho, hno⟩
      · exact absurd (blank_open l h2 hx) h0
      · have hb := blank_block l i h2 hx
        rw [hb] at hn ⊢
        refine blank_block _ i (pre_take2 l 47 42 n (by omega) h2) ?_
        rw [List.drop_take]
        refine Lib.index_hit (fun j hj => occ_take _ _ _ (hno j hj)) ?_ ?_
        · have h3 := Lib.index_room (l.drop 2) [42, 47] (by rw [hx]; omega)
          rw [hx] at h3
          rw [List.length_take]
          simp at h3 ⊢
          omega
        · unfold Lib.occAt at ho ⊢
          rw [List.isPrefixOf_iff_prefix] at ho ⊢
          rw [List.drop_take]
          obtain ⟨t, ht⟩ := ho
          rw [← ht]
          obtain ⟨m, hm⟩ : ∃ m, n - 2 - i = m + 2 := ⟨n - 2 - i - 2, by omega⟩
          rw [hm]
          exact ⟨t.take m, by simp⟩
    | false =>
      cases l with
      | nil => rw [blank_none [] h1 h2 (.inl rfl)] at h0; omega
      | cons c t =>
        cases h3 : wsB c with
        | true =>
          rw [blank_ws c t h3] at hn ⊢
          obtain ⟨m, rfl⟩ : ∃ m, n = m + 1 := ⟨n - 1, by omega⟩
          rw [List.take_succ_cons]
          exact blank_ws c _ h3
        | false => rw [blank_none _ h1 h2 (.inr h3)] at h0; omega
theorem blanks_take (l : List UInt8) : blanks (l.take (blanks l)) = blanks l := by
  suffices h : ∀ n, ∀ l : List UInt8, l.length ≤ n → blanks (l.take (blanks l)) = blanks l from h _ l (Nat.le_refl _)
  intro n
  induction n with
  | zero =>
    intro l h
    have : l = [] := List.eq_nil_of_length_eq_zero (by omega)
    subst this
    rfl
  | succ n ih =>
    intro l h
    by_cases hb : blank l = 0
    · rw [blanks_zero l hb]; rfl
    · have h1 := blank_le' l
      have h2 := blanks_step l hb
      have h3 := ih (l.drop (blank l)) (by rw [List.length_drop]; omega)
      obtain ⟨k, hk⟩ : ∃ k, blank l = k := ⟨_, rfl⟩
      obtain ⟨r, hr⟩ : ∃ r, blanks (l.drop k) = r := ⟨_, rfl⟩
      rw [hk] at h1 h2 h3 hb
      rw [hr] at h2 h3
      have h4 : blank (l.take (k + r)) = k := by
        have := blank_take l (k + r) (by omega) (by omega)
        omega
      rw [h2, blanks_step (l.take (k + r)) (by omega), h4, List.drop_take, show k + r - k = r from by omega, h3]
/-- A text that is blanks alone: its end is its one token. -/
theorem scan_blank (l : List UInt8) (p : Nat) (hl : l.length ≤ 16384) : ∃ a, scanM ((l.drop p).take (zAt l p - p)) = .ok [{ kind := 0, text := [], at_ := a, value := 0, uns := false, long := false }] := by
  have e : zAt l p - p = blanks (l.drop p) := by unfold zAt; omega
  rw [e]
  obtain ⟨M, hM⟩ : ∃ M, (l.drop p).take (blanks (l.drop p)) = M := ⟨_, rfl⟩
  have h1 : M.length = blanks (l.drop p) := by rw [← hM, List.length_take]; have := blanks_le' (l.drop p); omega
  have h2 : blanks M = M.length := by rw [h1, ← hM]; exact blanks_take _
  have h3 : M.length ≤ l.length := by rw [← hM, List.length_take, List.length_drop]; omega
  refine ⟨blanks M, ?_⟩
  rw [hM]
  unfold scanM
  rw [if_neg (by omega), show M.drop (blanks M) = [] from List.drop_eq_nil_of_le (by omega)]
  rfl

/-- Tokens stand one behind the other from a place on, blanks between them; the last is the end. -/
def Parts (l : List UInt8) : Nat → List Tok → Prop
  | _, [] => False
  | p, t :: r => t.at_ = zAt l p ∧ t.at_ + t.text.length ≤ l.length ∧ t.text = (l.drop t.at_).take t.text.length ∧
      ((r = [] ∧ t.kind = 0 ∧ t.at_ = l.length) ∨ (r ≠ [] ∧ t.kind ≠ 0 ∧ Parts l (t.at_ + t.text.length) r))

theorem parts_of (l : List UInt8) : ∀ (f p : Nat) (ts : List Tok), p ≤ l.length → scanF f (l.drop (zAt l p)) (zAt l p) = .ok ts → Parts l p ts := by
  intro f
  induction f with
  | zero => intro p ts _ h; cases h
  | succ f ih =>
    intro p ts hp h
    have hz := zAt_le l p hp
    by_cases hnil : l.drop (zAt l p) = []
    · rw [hnil, scanF_nil] at h
      injection h with h
      subst h
      have : l.length ≤ zAt l p := by
        have := congrArg List.length hnil
        rw [List.length_drop] at this; simp at this; omega
      exact ⟨rfl, by simp; omega, by simp, .inl ⟨rfl, rfl, by simp; omega⟩⟩
    · cases ht : firstT (l.drop (zAt l p)) with
      | none => rw [scanF_none _ _ _ hnil ht] at h; cases h
      | some t =>
        rw [scanF_some _ _ _ hnil t ht] at h
        obtain ⟨h1, h2, h3⟩ := firstT_len _ hnil t ht
        have hk : t.kind ≠ 0 := (firstT_text _ hnil t ht).choose_spec.2.2.1
        have e1 : ((l.drop (zAt l p)).drop t.text.length).drop (blanks ((l.drop (zAt l p)).drop t.text.length)) = l.drop (zAt l (zAt l p + t.text.length)) := by
          unfold zAt
          simp only [List.drop_drop]
          all_goals (congr 1 <;> omega)
        have e2 : zAt l p + t.text.length + blanks ((l.drop (zAt l p)).drop t.text.length) = zAt l (zAt l p + t.text.length) := by
          rw [List.drop_drop]; rfl
        rw [e1, e2] at h
        rw [List.length_drop] at h2
        cases hr : scanF f (l.drop (zAt l (zAt l p + t.text.length))) (zAt l (zAt l p + t.text.length)) with
        | error e => rw [hr] at h; cases h
        | ok us =>
          rw [hr] at h
          injection h with h
          subst h
          have hP := ih (zAt l p + t.text.length) us (by omega) hr
          refine ⟨rfl, by simp only; omega, h3, .inr ⟨?_, hk, hP⟩⟩
          rintro rfl
          exact hP
theorem err_le (l : List UInt8) : ∀ (f p e : Nat), p ≤ l.length → scanF f (l.drop (zAt l p)) (zAt l p) = .error e → e ≤ l.length := by
  intro f
  induction f with
  | zero =>
    intro p e hp h
    injection h with h
    subst h
    exact zAt_le l p hp
  | succ f ih =>
    intro p e hp h
    have hz := zAt_le l p hp
    by_cases hnil : l.drop (zAt l p) = []
    · rw [hnil, scanF_nil] at h; cases h
    · cases ht : firstT (l.drop (zAt l p)) with
      | none =>
        rw [scanF_none _ _ _ hnil ht] at h
        injection h with h
        subst h
        exact hz
      | some t =>
        rw [scanF_some _ _ _ hnil t ht] at h
        obtain ⟨h1, h2, h3⟩ := firstT_len _ hnil t ht
        have e1 : ((l.drop (zAt l p)).drop t.text.length).drop (blanks ((l.drop (zAt l p)).drop t.text.length)) = l.drop (zAt l (zAt l p + t.text.length)) := by
          unfold zAt
          simp only [List.drop_drop]
          all_goals (congr 1 <;> omega)
        have e2 : zAt l p + t.text.length + blanks ((l.drop (zAt l p)).drop t.text.length) = zAt l (zAt l p + t.text.length) := by
          rw [List.drop_drop]; rfl
        rw [e1, e2] at h
        rw [List.length_drop] at h2
        cases hr : scanF f (l.drop (zAt l (zAt l p + t.text.length))) (zAt l (zAt l p + t.text.length)) with
        | error e' =>
          rw [hr] at h
          injection h with h
          subst h
          exact ih _ _ (by omega) hr
        | ok us => rw [hr] at h; cases h
theorem scan_parts (l : List UInt8) (ts : List Tok) (h : scanM l = .ok ts) : Parts l 0 ts ∧ l.length ≤ 16384 := by
  unfold scanM at h
  by_cases hb : 16384 < l.length
  · rw [if_pos hb] at h; cases h
  · rw [if_neg hb] at h
    have e : blanks l = zAt l 0 := by unfold zAt; rw [List.drop_zero, Nat.zero_add]
    rw [e] at h
    refine ⟨?_, by omega⟩
    cases hr : scanF (l.length + 1) (l.drop (zAt l 0)) (zAt l 0) with
    | error e' => rw [hr] at h; cases h
    | ok us =>
      rw [hr] at h
      injection h with h
      subst h
      exact parts_of l _ 0 us (by omega) hr
theorem scan_err (l : List UInt8) (a : Nat) (h : scanM l = .lex a) : a ≤ l.length := by
  unfold scanM at h
  by_cases hb : 16384 < l.length
  · rw [if_pos hb] at h; cases h
  · rw [if_neg hb] at h
    have e : blanks l = zAt l 0 := by unfold zAt; rw [List.drop_zero, Nat.zero_add]
    rw [e] at h
    cases hr : scanF (l.length + 1) (l.drop (zAt l 0)) (zAt l 0) with
    | error e' =>
      rw [hr] at h
      injection h with h
      subst h
      exact err_le l _ 0 _ (by omega) hr
    | ok us => rw [hr] at h; cases h
end Go.Proofs.YtamimaoaafapbaaDoor
