import Derived.Test.YtamimaoaafapbaaDoorLexM
namespace Go.Proofs.YtamimaoaafapbaaDoor
open Go

theorem firstT_text (l : List UInt8) (hl : l ≠ []) (t : Tok) (h : firstT l = some t) : ∃ m, 1 ≤ m ∧ t.text = l.take m ∧ t.kind ≠ 0 ∧ t.at_ = 0 := by
  unfold firstT at h
  by_cases c1 : letB (l.getD 0 0).toNat = true
  · rw [if_pos c1] at h
    unfold nameT at h
    by_cases c2 : 40 < runLen (fun c => partB c.toNat) (l.drop 1) + 1
    · rw [if_pos c2] at h; cases h
    · rw [if_neg c2] at h
      injection h with h; subst h
      exact ⟨_, by omega, rfl, by dsimp only; split <;> omega, rfl⟩
  · rw [if_neg c1] at h
    by_cases hd : digB (l.getD 0 0).toNat = true
    · rw [if_pos hd] at h
      unfold numberT at h
      cases hv : numVal l with
      | none => rw [hv] at h; cases h
      | some v =>
        rw [hv] at h
        cases hb : numBad l with
        | true => rw [hb] at h; cases h
        | false =>
          rw [hb] at h
          injection h with h; subst h
          refine ⟨_, ?_, rfl, by dsimp only; omega, rfl⟩
          have h1 : 1 ≤ numEnd l := by
            unfold numEnd
            cases hx : Lib.hasPrefix l [48, 120] with
            | true => unfold numFrom; rw [hx]; rw [if_pos rfl]; omega
            | false =>
              have hf : numFrom l = 0 := by unfold numFrom; rw [hx]; rfl
              have hb : numBase l = 10 := by unfold numBase; rw [hx]; rfl
              rw [hf, hb]
              cases l with
              | nil => exact absurd rfl hl
              | cons c t =>
                have hd' : digB (c.toNat : Int) = true := hd
                unfold runLen
                rw [List.drop_zero, List.takeWhile_cons, if_pos (show baseB (10 : Nat) (c.toNat : Int) = true from hd')]
                simp
          unfold numEnd2 numEnd1
          omega
    · rw [if_neg hd] at h
      by_cases c3 : ((l.getD 0 0).toNat : Int) = 39
      · rw [if_pos c3] at h
        unfold charT at h
        by_cases c4 : 4 ≤ l.length ∧ l.getD 1 0 = 92 ∧ l.getD 3 0 = 39
        · rw [if_pos c4] at h
          cases he : esc (l.getD 2 0).toNat with
          | none => rw [he] at h; cases h
          | some v => rw [he] at h; injection h with h; subst h; exact ⟨4, by omega, rfl, by dsimp only; omega, rfl⟩
        · rw [if_neg c4] at h
          by_cases c5 : 3 ≤ l.length ∧ plainB (l.getD 1 0).toNat = true ∧ l.getD 2 0 = 39
          · rw [if_pos c5] at h; injection h with h; subst h; exact ⟨3, by omega, rfl, by dsimp only; omega, rfl⟩
          · rw [if_neg c5] at h; cases h
      · rw [if_neg c3] at h
        by_cases c6 : Lib.hasPrefix l [47, 42] = true
        · rw [if_pos c6] at h; cases h
        · rw [if_neg c6] at h
          unfold signT at h
          have key : ∀ k, signDown k l = some t → ∃ m, 1 ≤ m ∧ t.text = l.take m ∧ t.kind ≠ 0 ∧ t.at_ = 0 := by
            intro k
            induction k with
            | zero => intro h; cases h
            | succ k ih =>
              intro h
              unfold signDown at h
              by_cases c7 : signs.contains (l.take (k + 1)) = true
              · rw [if_pos c7] at h; injection h with h; subst h; exact ⟨k + 1, by omega, rfl, by simp [signOf], rfl⟩
              · rw [if_neg c7] at h; exact ih h
          exact key _ h
theorem firstT_len (l : List UInt8) (hl : l ≠ []) (t : Tok) (h : firstT l = some t) : 1 ≤ t.text.length ∧ t.text.length ≤ l.length ∧ t.text = l.take t.text.length := by
  obtain ⟨m, hm, ht, _⟩ := firstT_text l hl t h
  have : 0 < l.length := List.length_pos_iff.2 hl
  refine ⟨by rw [ht, List.length_take]; omega, by rw [ht, List.length_take]; omega, ?_⟩
  rw [ht, List.length_take]
  by_cases hc : m ≤ l.length
  · rw [Nat.min_eq_left hc]
  · rw [Nat.min_eq_right (by omega), List.take_of_length_le (by omega), List.take_of_length_le (by omega)]

theorem scanF_nil (n : Nat) (a : Nat) : scanF (n + 1) [] a = .ok [{ kind := 0, text := [], at_ := a, value := 0, uns := false, long := false }] := rfl
theorem scanF_none (n : Nat) (l : List UInt8) (a : Nat) (hl : l ≠ []) (h : firstT l = none) : scanF (n + 1) l a = .error a := by
  unfold scanF; rw [if_neg hl, h]
theorem scanF_some (n : Nat) (l : List UInt8) (a : Nat) (hl : l ≠ []) (t : Tok) (h : firstT l = some t) : scanF (n + 1) l a =
    match scanF n ((l.drop t.text.length).drop (blanks (l.drop t.text.length))) (a + t.text.length + blanks (l.drop t.text.length)) with
    | .error e => .error e
    | .ok ts => .ok ({ t with at_ := a } :: ts) := by
  conv => lhs; unfold scanF
  rw [if_neg hl, h]
  rfl
end Go.Proofs.YtamimaoaafapbaaDoor
