import Derived.Test.YtamimaoaafapbaaDoorLexM
import Derived.Lib.IndexLaws
import Derived.Lib.IndexMore
namespace Go.Proofs.YtamimaoaafapbaaDoor
open Go

theorem indexByte_lt' : ∀ (l : List UInt8) (c : UInt8), Lib.indexByte l c ≤ l.length := by
  intro l c
  induction l with
  | nil => simp [Lib.indexByte]
  | cons b l ih =>
    unfold Lib.indexByte
    split
    · simp; omega
    · split
      · simp; omega
      · simp; omega
theorem pre_len {l : List UInt8} {a b : UInt8} (h : Lib.hasPrefix l [a, b] = true) : ∃ t, l = a :: b :: t := by
  unfold Lib.hasPrefix at h
  obtain ⟨t, ht⟩ := List.isPrefixOf_iff_prefix.1 h
  exact ⟨t, ht.symm⟩
theorem pre_take (l : List UInt8) (k : Nat) (a b : UInt8) (h : k + 1 < l.length) : Lib.hasPrefix (l.drop k) [a, b] = ((l.drop k).take 2 == [a, b]) := by
  rw [← Lib.hasPrefix_of_take]
  simp only [List.length_cons, List.length_nil, List.length_drop]
  rw [show decide (0 + 1 + 1 ≤ l.length - k) = true from decide_eq_true (by omega)]
  rfl
theorem pre_short (l : List UInt8) (k : Nat) (a b : UInt8) (h : l.length ≤ k + 1) : Lib.hasPrefix (l.drop k) [a, b] = false := by
  rw [← Bool.not_eq_true]
  intro hp
  obtain ⟨t, ht⟩ := pre_len hp
  have := congrArg List.length ht
  simp at this; omega

theorem indexByte_run (l : List UInt8) : (if 0 ≤ Lib.indexByte l 10 then (Lib.indexByte l 10).toNat else l.length) = runLen (fun c => c != 10) l := by
  unfold runLen
  induction l with
  | nil => simp [Lib.indexByte]
  | cons b t ih =>
    unfold Lib.indexByte
    rw [List.takeWhile_cons]
    by_cases hb : b = 10
    · subst hb; simp
    · have h1 : (b == 10) = false := beq_eq_false_iff_ne.2 hb
      have h2 : (b != 10) = true := by simp [hb]
      have hge := Lib.indexByte_ge t 10
      rw [h1, h2]
      simp only [Bool.false_eq_true, if_false, if_true, List.length_cons]
      by_cases h3 : Lib.indexByte t 10 = -1
      · rw [h3] at ih ⊢
        simp at ih ⊢; omega
      · have h4 : (Lib.indexByte t 10 == -1) = false := beq_eq_false_iff_ne.2 h3
        rw [h4]
        have h5 : 0 ≤ Lib.indexByte t 10 := by omega
        rw [if_pos h5] at ih
        simp only [Bool.false_eq_true, if_false]
        rw [if_pos (by omega)]
        omega

theorem blank_line (l : List UInt8) (h : Lib.hasPrefix l [47, 47] = true) : blank l = runLen (fun c => c != 10) l := by
  unfold blank
  rw [if_pos h, indexByte_run]

theorem pre_not (l : List UInt8) (a b c : UInt8) (hbc : b ≠ c) (h : Lib.hasPrefix l [a, b] = true) : Lib.hasPrefix l [a, c] = false := by
  obtain ⟨t, rfl⟩ := pre_len h
  simp [Lib.hasPrefix, List.isPrefixOf, Ne.symm hbc]

theorem blank_block (l : List UInt8) (i : Nat) (h : Lib.hasPrefix l [47, 42] = true) (hx : Lib.index (l.drop 2) [42, 47] = i) : blank l = 2 + i + 2 := by
  unfold blank
  rw [if_neg (by rw [pre_not l 47 42 47 (by decide) h]; simp), if_pos h, hx, if_pos (by omega)]
  simp
theorem blank_open (l : List UInt8) (h : Lib.hasPrefix l [47, 42] = true) (hx : Lib.index (l.drop 2) [42, 47] = -1) : blank l = 0 := by
  unfold blank
  rw [if_neg (by rw [pre_not l 47 42 47 (by decide) h]; simp), if_pos h, hx, if_neg (by omega)]
theorem pre2' (a b c : UInt8) (l : List UInt8) (h : c ≠ a) : Lib.hasPrefix (c :: l) [a, b] = false := by
  cases l with
  | nil => simp [Lib.hasPrefix, List.isPrefixOf]
  | cons e t => simp [Lib.hasPrefix, List.isPrefixOf, Ne.symm h]
theorem blank_ws (c : UInt8) (l : List UInt8) (h : wsB c = true) : blank (c :: l) = 1 := by
  have hc : c ≠ 47 := by rintro rfl; simp [wsB] at h
  unfold blank
  rw [pre2' 47 47 c l hc, pre2' 47 42 c l hc]
  simp [h]
theorem blank_none (l : List UInt8) (h1 : Lib.hasPrefix l [47, 47] = false) (h2 : Lib.hasPrefix l [47, 42] = false) (h3 : l = [] ∨ wsB (l.getD 0 0) = false) : blank l = 0 := by
  unfold blank
  rw [h1, h2]
  cases l with
  | nil => rfl
  | cons c t =>
    rcases h3 with h3 | h3
    · cases h3
    · simp only [List.getD_cons_zero] at h3
      simp [h3]

theorem blank_le' (l : List UInt8) : blank l ≤ l.length := by
  cases h1 : Lib.hasPrefix l [47, 47] with
  | true => rw [blank_line l h1]; exact runLen_le _ _
  | false =>
    cases h2 : Lib.hasPrefix l [47, 42] with
    | true =>
      rcases Int.lt_or_le (Lib.index (l.drop 2) [42, 47]) 0 with h | h
      · have := Lib.index_ge (l.drop 2) [42, 47]
        rw [blank_open l h2 (by omega)]; omega
      · obtain ⟨i, hi⟩ := Int.eq_ofNat_of_zero_le h
        have h3 := Lib.index_room _ _ h
        rw [blank_block l i h2 hi]
        obtain ⟨t, rfl⟩ := pre_len h2
        rw [hi] at h3
        simp at h3 ⊢
        omega
    | false =>
      cases l with
      | nil => rw [blank_none [] h1 h2 (.inl rfl)]; simp
      | cons c t =>
        cases h3 : wsB c with
        | true => rw [blank_ws c t h3]; simp
        | false => rw [blank_none _ h1 h2 (.inr h3)]; omega

theorem blanksF_fuel : ∀ (n f : Nat) (l : List UInt8), l.length < n → n ≤ f → blanksF f l = blanksF n l := by
  intro n
  induction n with
  | zero => intro f l h; omega
  | succ n ih =>
    intro f l h hf
    obtain ⟨f, rfl⟩ : ∃ f', f = f' + 1 := ⟨f - 1, by omega⟩
    unfold blanksF
    by_cases hb : blank l = 0
    · rw [if_pos hb, if_pos hb]
    · rw [if_neg hb, if_neg hb]
      have := blank_le' l
      rw [ih f (l.drop (blank l)) (by rw [List.length_drop]; omega) (by omega)]
theorem blanks_zero (l : List UInt8) (h : blank l = 0) : blanks l = 0 := by
  unfold blanks blanksF; rw [if_pos h]
theorem blanks_step (l : List UInt8) (h : blank l ≠ 0) : blanks l = blank l + blanks (l.drop (blank l)) := by
  have hle := blank_le' l
  have hl : 0 < l.length := by
    rcases Nat.eq_zero_or_pos l.length with h0 | h0
    · omega
    · exact h0
  unfold blanks
  conv => lhs; unfold blanksF
  rw [if_neg h]
  congr 1
  exact blanksF_fuel _ _ _ (by omega) (by rw [List.length_drop]; omega)
theorem blanks_le' (l : List UInt8) : blanks l ≤ l.length := by
  suffices h : ∀ n, ∀ l : List UInt8, l.length ≤ n → blanks l ≤ l.length from h _ l (Nat.le_refl _)
  intro n
  induction n with
  | zero =>
    intro l h
    by_cases hb : blank l = 0
    · rw [blanks_zero l hb]; omega
    · have := blank_le' l; omega
  | succ n ih =>
    intro l h
    by_cases hb : blank l = 0
    · rw [blanks_zero l hb]; omega
    · have h1 := blank_le' l
      have h2 := ih (l.drop (blank l)) (by rw [List.length_drop]; omega)
      rw [blanks_step l hb]
      rw [List.length_drop] at h2
      omega

/-- The place behind the blanks. -/
def zAt (l : List UInt8) (at_ : Nat) : Nat := at_ + blanks (l.drop at_)
theorem zAt_le (l : List UInt8) (at_ : Nat) (h : at_ ≤ l.length) : zAt l at_ ≤ l.length := by
  unfold zAt; have := blanks_le' (l.drop at_); rw [List.length_drop] at this; omega
theorem zAt_go (l : List UInt8) (at_ k : Nat) (hk : blank (l.drop at_) = k) (h0 : k ≠ 0) : zAt l at_ = zAt l (at_ + k) := by
  unfold zAt
  rw [blanks_step (l.drop at_) (by omega), hk, List.drop_drop]
  omega
theorem zAt_stop (l : List UInt8) (at_ : Nat) (h : blank (l.drop at_) = 0) : zAt l at_ = at_ := by
  unfold zAt; rw [blanks_zero _ h]; rfl
theorem zAt_ws (l : List UInt8) (k : Nat) (h : k < l.length) (hw : wsB l[k] = true) : zAt l k = zAt l (k + 1) :=
  zAt_go l k 1 (by rw [List.drop_eq_getElem_cons h]; exact blank_ws _ _ hw) (by omega)
theorem zAt_line (l : List UInt8) (k : Nat) (h : Lib.hasPrefix (l.drop k) [47, 47] = true) : zAt l k = zAt l (k + runLen (fun c => c != 10) (l.drop k)) := by
  refine zAt_go l k _ (blank_line _ h) ?_
  obtain ⟨t, ht⟩ := pre_len h
  rw [ht]
  simp [runLen]
theorem zAt_block (l : List UInt8) (k i : Nat) (h : Lib.hasPrefix (l.drop k) [47, 42] = true) (hn : Lib.NoOcc (l.drop (k + 2)) [42, 47] i) (hi : Lib.hasPrefix (l.drop (k + 2 + i)) [42, 47] = true) : zAt l k = zAt l (k + 2 + i + 2) := by
  have hx : Lib.index ((l.drop k).drop 2) [42, 47] = i := by
    rw [List.drop_drop]
    have hlen : i ≤ (l.drop (k + 2)).length := by
      obtain ⟨t, ht⟩ := pre_len hi
      have := congrArg List.length ht
      simp at this
      rw [List.length_drop]; omega
    exact Lib.index_hit hn hlen (by unfold Lib.occAt; rw [List.drop_drop]; exact hi)
  have := zAt_go l k (2 + i + 2) (blank_block _ i h hx) (by omega)
  rw [this]; congr 1; omega
theorem zAt_open (l : List UInt8) (k i : Nat) (h : Lib.hasPrefix (l.drop k) [47, 42] = true) (hn : Lib.NoOcc (l.drop (k + 2)) [42, 47] i) (hi : l.length ≤ k + 2 + i + 1) : zAt l k = k := by
  refine zAt_stop l k (blank_open _ h ?_)
  rw [List.drop_drop]
  exact Lib.index_past (by simp) hn (by rw [List.length_drop]; simp; omega)
theorem occ_pre (l : List UInt8) (k i : Nat) : Lib.occAt (l.drop k) [42, 47] i = Lib.hasPrefix (l.drop (k + i)) [42, 47] := by
  unfold Lib.occAt Lib.hasPrefix; rw [List.drop_drop]

/-- The sign that is found by going through a list: the first that is longer than all found so far. -/
def bestF : List (List UInt8) → List UInt8 → List UInt8 → List UInt8
  | [], _, acc => acc
  | g :: gs, l, acc => bestF gs l (if acc.length < g.length ∧ Lib.hasPrefix l g = true then g else acc)
theorem bestF_app (a b : List (List UInt8)) (l : List UInt8) : ∀ acc, bestF (a ++ b) l acc = bestF b l (bestF a l acc) := by
  induction a with
  | nil => intro acc; rfl
  | cons g gs ih => intro acc; simp only [List.cons_append, bestF]; exact ih _
theorem bestF_short (gs : List (List UInt8)) (l : List UInt8) (n : Nat) (hg : ∀ g ∈ gs, g.length = n) : ∀ acc, n ≤ acc.length → bestF gs l acc = acc := by
  induction gs with
  | nil => intro acc _; rfl
  | cons g gs ih =>
    intro acc h
    simp only [bestF]
    rw [if_neg (by have := hg g (by simp); omega)]
    exact ih (fun x hx => hg x (by simp [hx])) acc h
theorem pre_is_take (l g : List UInt8) (h : Lib.hasPrefix l g = true) : l.take g.length = g := by
  unfold Lib.hasPrefix at h
  exact (List.prefix_iff_eq_take.1 (List.isPrefixOf_iff_prefix.1 h)).symm
theorem take_is_pre (l g : List UInt8) (h : l.take g.length = g) : Lib.hasPrefix l g = true := by
  unfold Lib.hasPrefix
  exact List.isPrefixOf_iff_prefix.2 (h ▸ List.take_prefix _ _)
theorem bestF_level (gs : List (List UInt8)) (l : List UInt8) (n : Nat) (hg : ∀ g ∈ gs, g.length = n) : ∀ acc, acc.length < n → bestF gs l acc = if gs.contains (l.take n) then l.take n else acc := by
  induction gs with
  | nil => intro acc _; rfl
  | cons g gs ih =>
    intro acc h
    have hgn := hg g (by simp)
    simp only [bestF]
    by_cases hp : Lib.hasPrefix l g = true
    · have ht := pre_is_take l g hp
      rw [hgn] at ht
      rw [if_pos ⟨by omega, hp⟩, bestF_short gs l n (fun x hx => hg x (by simp [hx])) g (by omega), ht]
      simp
    · rw [if_neg (fun h => hp h.2), ih (fun x hx => hg x (by simp [hx])) acc h]
      have hne : l.take n ≠ g := fun he => hp (take_is_pre l g (by rw [hgn]; exact he))
      simp [hne]
def signs3 : List (List UInt8) := signs.take 2
def signs2 : List (List UInt8) := (signs.drop 2).take 19
def signs1 : List (List UInt8) := signs.drop 21
theorem signs_parts : signs = signs3 ++ (signs2 ++ signs1) := by decide
theorem signs3_len : ∀ g ∈ signs3, g.length = 3 := by decide
theorem signs2_len : ∀ g ∈ signs2, g.length = 2 := by decide
theorem signs1_len : ∀ g ∈ signs1, g.length = 1 := by decide
theorem contains_len (gs : List (List UInt8)) (n : Nat) (hg : ∀ g ∈ gs, g.length = n) (x : List UInt8) (h : x.length ≠ n) : gs.contains x = false := by
  rw [← Bool.not_eq_true, List.contains_iff_mem]
  exact fun hm => h (hg x hm)
theorem signs_at3 (x : List UInt8) (h : x.length = 3) : signs.contains x = signs3.contains x := by
  rw [signs_parts, List.contains_append, List.contains_append, contains_len _ 2 signs2_len x (by omega), contains_len _ 1 signs1_len x (by omega)]; simp
theorem signs_at2 (x : List UInt8) (h : x.length = 2) : signs.contains x = signs2.contains x := by
  rw [signs_parts, List.contains_append, List.contains_append, contains_len _ 3 signs3_len x (by omega), contains_len _ 1 signs1_len x (by omega)]; simp
theorem signs_at1 (x : List UInt8) (h : x.length = 1) : signs.contains x = signs1.contains x := by
  rw [signs_parts, List.contains_append, List.contains_append, contains_len _ 3 signs3_len x (by omega), contains_len _ 2 signs2_len x (by omega)]; simp
set_option maxRecDepth 10000 in
theorem best_sign (l : List UInt8) : bestF signs l [] = ((signT l).map (fun t => t.text)).getD [] := by
  rw [signs_parts, bestF_app, bestF_app, bestF_level _ l 3 signs3_len [] (by simp)]
  unfold signT
  match l with
  | [] =>
    rw [contains_len _ 3 signs3_len _ (by simp)]
    simp only [Bool.false_eq_true, if_false]
    rw [bestF_level _ _ 2 signs2_len [] (by simp), contains_len _ 2 signs2_len _ (by simp)]
    simp only [Bool.false_eq_true, if_false]
    rw [bestF_level _ _ 1 signs1_len [] (by simp), contains_len _ 1 signs1_len _ (by simp)]
    rfl
  | [a] =>
    rw [contains_len _ 3 signs3_len _ (by simp)]
    simp only [Bool.false_eq_true, if_false]
    rw [bestF_level _ _ 2 signs2_len [] (by simp), contains_len _ 2 signs2_len _ (by simp)]
    simp only [Bool.false_eq_true, if_false]
    rw [bestF_level _ _ 1 signs1_len [] (by simp)]
    show _ = ((signDown 1 [a]).map _).getD []
    unfold signDown
    rw [signs_at1 _ (by simp)]
    cases h : signs1.contains ([a].take 1) with
    | true => simp only [if_true]; rfl
    | false => simp only [Bool.false_eq_true, if_false]; rfl
  | [a, b] =>
    rw [contains_len _ 3 signs3_len _ (by simp)]
    simp only [Bool.false_eq_true, if_false]
    rw [bestF_level _ _ 2 signs2_len [] (by simp)]
    show _ = ((signDown 2 [a, b]).map _).getD []
    unfold signDown
    rw [signs_at2 _ (by simp)]
    cases h : signs2.contains ([a, b].take 2) with
    | true =>
      simp only [if_true]
      rw [bestF_short _ _ 1 signs1_len _ (by simp)]
      rfl
    | false =>
      simp only [Bool.false_eq_true, if_false]
      rw [bestF_level _ _ 1 signs1_len [] (by simp)]
      unfold signDown
      rw [signs_at1 _ (by simp)]
      cases h : signs1.contains ([a, b].take 1) with
      | true => simp only [if_true]; rfl
      | false => simp only [Bool.false_eq_true, if_false]; rfl
  | a :: b :: c :: t =>
    rw [show min 3 (a :: b :: c :: t).length = 3 from by simp]
    unfold signDown
    rw [signs_at3 _ (by simp)]
    cases h : signs3.contains ((a :: b :: c :: t).take 3) with
    | true =>
      simp only [if_true]
      rw [bestF_short _ _ 2 signs2_len _ (by simp), bestF_short _ _ 1 signs1_len _ (by simp)]
      rfl
    | false =>
      simp only [Bool.false_eq_true, if_false]
      rw [bestF_level _ _ 2 signs2_len [] (by simp)]
      unfold signDown
      rw [signs_at2 _ (by simp)]
      cases h : signs2.contains ((a :: b :: c :: t).take 2) with
      | true =>
        simp only [if_true]
        rw [bestF_short _ _ 1 signs1_len _ (by simp)]
        rfl
      | false =>
        simp only [Bool.false_eq_true, if_false]
        rw [bestF_level _ _ 1 signs1_len [] (by simp)]
        unfold signDown
        rw [signs_at1 _ (by simp)]
        cases h : signs1.contains ((a :: b :: c :: t).take 1) with
        | true => simp only [if_true]; rfl
        | false => simp only [Bool.false_eq_true, if_false]; rfl
end Go.Proofs.YtamimaoaafapbaaDoor
