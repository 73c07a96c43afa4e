import Derived.Test.YtamimaoaafapbaaDoorLexC
namespace Go.Proofs.YtamimaoaafapbaaDoor
open Go Go.RowKit

theorem esc_lo (c v : Int) (hc : 0 ≤ c ∧ c < 256) (h : esc c = some v) : 0 ≤ v ∧ v < 256 := by
  unfold esc at h
  split at h
  · injection h; omega
  · split at h
    · injection h; omega
    · split at h
      · injection h; omega
      · split at h
        · injection h; omega
        · cases h

set_option maxHeartbeats 1000000 in
/-- A backslash: the first form, or none. -/
theorem char_esc (s : ByteArray) (hs : s.size ≤ 1048576) (h4 : 4 ≤ s.size) (h92 : ((s[1].toNat : Int) == 92) = true) (w : World) :
    Calls Tryd.prog 21 #[.string s] w fun e w' => TokRes (charT s.data.toList) e ∧ Below w.heap.size w w' := by
  have g1 := getD_at s 1 (by omega)
  have g2 := getD_at s 2 (by omega)
  have g3 := getD_at s 3 (by omega)
  have e92 : s[1] = 92 := (u8_eq s[1] 92 (by omega)).1 h92
  have hX := B_extract s 0 4
  rw [List.drop_zero, Nat.sub_zero] at hX
  have HX := Lib.hid hX
  clear hX
  cases h39 : ((s[3].toNat : Int) == 39) with
  | false =>
    have HN : Hid (charT s.data.toList = none) := by
      refine Lib.hid ?_
      have h3 : s[3] ≠ 39 := by intro h; rw [h] at h39; simp at h39
      unfold charT
      rw [g1, g2, g3, if_neg (fun h => h3 h.2.2), if_neg]
      rintro ⟨_, h, _⟩
      rw [e92] at h
      exact absurd h (by decide)
    have HP : Hid (plainB ((s[1].toNat : Int)) = false) := Lib.hid (by rw [e92]; decide)
    clear g1 g2 g3 e92
    go_enter Tryd.func21, Tryd.ntmps21
    go_wp2_with (go_at_call 35; refine (isPlain_any _ _).mono ?_; rintro e w' ⟨rfl, rfl⟩; rw [HP.out])
    exact bodyPost_ret (v := .tuple #[tokV tok0, .bool false]) (by simp [results, Tryd.results21, go_sem, tokV, tok0]; rfl) rfl (none_post _ HN.out ((Below.refl _ _).alloc (Nat.le_refl _) _))
  | true =>
    have e39 : s[3] = 39 := (u8_eq s[3] 39 (by omega)).1 h39
    have HM : Hid (charT s.data.toList = match esc (s[2].toNat) with
        | some v => some { kind := 3, text := s.data.toList.take 4, at_ := 0, value := v.toNat, uns := false, long := false }
        | none => none) := by
      refine Lib.hid ?_
      have hsz := Lib.size_eq s
      unfold charT
      rw [g1, g2, g3, if_pos ⟨by omega, e92, e39⟩]
      rfl
    clear g1 g2 g3 e92 e39
    have hlt := s[2].toNat_lt
    cases hv : esc (s[2].toNat) with
    | none =>
      have HN : Hid (charT s.data.toList = none) := Lib.hid (by rw [HM.out, hv])
      have HV := Lib.hid hv
      clear hv HM
      go_enter Tryd.func21, Tryd.ntmps21
      go_wp2_with (go_at_call 34; refine (escaped_any _ _).mono ?_; rintro e w' ⟨rfl, rfl⟩; rw [HV.out])
      refine bodyPost_ret (v := .tuple #[tokV { kind := 3, text := s.data.toList.take 4, at_ := 0, value := 0, uns := false, long := false }, .bool false]) ?_ rfl ⟨by rw [HN.out]; exact ⟨_, rfl⟩, (Below.refl _ _).alloc (Nat.le_refl _) _⟩
      rw [HX.out]; simp [results, Tryd.results21, go_sem, tokV]
    | some v =>
      have HN : Hid (charT s.data.toList = some { kind := 3, text := s.data.toList.take 4, at_ := 0, value := v.toNat, uns := false, long := false }) := Lib.hid (by rw [HM.out, hv])
      have hb := esc_lo _ v ⟨by omega, by omega⟩ hv
      obtain ⟨hb0, hb1⟩ := hb
      obtain ⟨n, rfl⟩ := Int.eq_ofNat_of_zero_le hb0
      have HV := Lib.hid hv
      clear hv HM hb0
      obtain ⟨u, rfl⟩ : ∃ u : UInt8, n = u.toNat := ⟨n.toUInt8, by simp; omega⟩
      have hlu := u.toNat_lt
      clear hb1
      go_enter Tryd.func21, Tryd.ntmps21
      go_wp2_with (go_at_call 34; refine (escaped_any _ _).mono ?_; rintro e w' ⟨rfl, rfl⟩; rw [HV.out, Option.getD_some, Option.isSome_some])
      refine bodyPost_ret (v := .tuple #[tokV { kind := 3, text := s.data.toList.take 4, at_ := 0, value := u.toNat, uns := false, long := false }, .bool true]) ?_ rfl (some_post _ _ HN.out ((Below.refl _ _).alloc (Nat.le_refl _) _))
      rw [HX.out]; simp [results, Tryd.results21, go_sem, tokV]

theorem char_any (s : ByteArray) (hs : s.size ≤ 1048576) (w : World) :
    Calls Tryd.prog 21 #[.string s] w fun e w' => TokRes (charT s.data.toList) e ∧ Below w.heap.size w w' := by
  by_cases h3 : s.size < 3
  · exact char_small s hs h3 w
  · cases h92 : (((s[1]'(by omega)).toNat : Int) == 92) with
    | false => exact char_plain s hs (by omega) (.inr h92) w
    | true =>
      by_cases h4 : 4 ≤ s.size
      · exact char_esc s hs h4 h92 w
      · exact char_plain s hs (by omega) (.inl (by omega)) w
end Go.Proofs.YtamimaoaafapbaaDoor
