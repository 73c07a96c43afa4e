import Derived.Test.YtamimaoaafapbaaDoorLexG
import Derived.Lib.IndexMore
import Derived.WalkSpells
import Derived.WalkLawsBesides
namespace Go.Proofs.YtamimaoaafapbaaDoor
open Go Go.RowKit

theorem ws_yes (c : UInt8) (h : (c.toNat : Int) = 32 ∨ (c.toNat : Int) = 9 ∨ (c.toNat : Int) = 10 ∨ (c.toNat : Int) = 13) : wsB c = true := by
  have : c = 32 ∨ c = 9 ∨ c = 10 ∨ c = 13 := by
    rcases h with h | h | h | h
    · exact .inl (UInt8.toNat_inj.1 (by have : (32 : UInt8).toNat = 32 := rfl; omega))
    · exact .inr (.inl (UInt8.toNat_inj.1 (by have : (9 : UInt8).toNat = 9 := rfl; omega)))
    · exact .inr (.inr (.inl (UInt8.toNat_inj.1 (by have : (10 : UInt8).toNat = 10 := rfl; omega))))
    · exact .inr (.inr (.inr (UInt8.toNat_inj.1 (by have : (13 : UInt8).toNat = 13 := rfl; omega))))
  rcases this with rfl | rfl | rfl | rfl <;> decide
theorem ws_no (c : UInt8) (h : ¬ ((c.toNat : Int) = 32 ∨ (c.toNat : Int) = 9 ∨ (c.toNat : Int) = 10 ∨ (c.toNat : Int) = 13)) : ¬ wsB c = true := by
  intro hw
  apply h
  have : c = 32 ∨ c = 9 ∨ c = 10 ∨ c = 13 := by simpa [wsB, or_assoc] using hw
  rcases this with rfl | rfl | rfl | rfl <;> decide

set_option maxHeartbeats 2000000 in
theorem blank_any (s : ByteArray) (hs : s.size ≤ 1048576) (w : World) (hg : G w) :
    Calls Tryd.prog 16 #[.string s] w fun e w' => e = .returned (.int .i64 (blank s.data.toList)) ∧ w = w' := by
  have hsz := Lib.size_eq s
  obtain ⟨m, hm⟩ := hg.maxLen
  clear hg
  cases h1 : Lib.hasPrefix s.data.toList [47, 47] with
  | true =>
    have H1 := Lib.hid h1
    obtain ⟨x, hx⟩ : ∃ x, x = Lib.indexByte s.data.toList 10 := ⟨_, rfl⟩
    have HX := Lib.hid hx
    have HM : Hid (blank s.data.toList = if 0 ≤ x then x.toNat else s.data.toList.length) := Lib.hid (by unfold blank; rw [h1, hx]; rfl)
    clear h1 hx
    by_cases h0 : 0 ≤ x
    · obtain ⟨n, rfl⟩ := Int.eq_ofNat_of_zero_le h0
      clear hsz
      go_enter Tryd.func16, Tryd.ntmps16
      go_wp2_with (first | (go_at_call 22; refine (Tryd.strings_HasPrefix _ _ _).mono ?_; rintro e w' ⟨rfl, hw'⟩; rw [hw', show Lib.hasPrefix s.data.toList (ByteArray.mk #[47, 47]).data.toList = true from H1.out]; clear hw') | (go_at_call 29; refine (Tryd.strings_IndexByte _ _ _).mono ?_; rintro e w' ⟨rfl, hw'⟩; rw [hw', show Lib.indexByte s.data.toList ((10 : Int).toNat.toUInt8) = ((n : Nat) : Int) from HX.out.symm]; clear hw'))
      go_ret
      exact ⟨by rw [HM.out, if_pos (by omega)]; rfl, rfl⟩
    · have HS := Lib.hid hsz
      clear hsz
      go_enter Tryd.func16, Tryd.ntmps16
      go_wp2_with (first | (go_at_call 22; refine (Tryd.strings_HasPrefix _ _ _).mono ?_; rintro e w' ⟨rfl, hw'⟩; rw [hw', show Lib.hasPrefix s.data.toList (ByteArray.mk #[47, 47]).data.toList = true from H1.out]; clear hw') | (go_at_call 29; refine (Tryd.strings_IndexByte _ _ _).mono ?_; rintro e w' ⟨rfl, hw'⟩; rw [hw', show Lib.indexByte s.data.toList ((10 : Int).toNat.toUInt8) = x from HX.out.symm]; clear hw'))
      go_ret
      exact ⟨by rw [HM.out, if_neg (by omega), ← HS.out]; rfl, rfl⟩
  | false =>
    have H1 := Lib.hid h1
    cases h2 : Lib.hasPrefix s.data.toList [47, 42] with
    | true =>
      have H2 := Lib.hid h2
      have hl2 := hasPrefix_two _ _ _ h2
      have h2s : 2 ≤ s.size := by omega
      obtain ⟨x, hx⟩ : ∃ x, x = Lib.index (s.data.toList.drop 2) [42, 47] := ⟨_, rfl⟩
      have hxl : x ≤ 1048576 := by
        have := Lib.index_le (s.data.toList.drop 2) [42, 47]
        rw [List.length_drop] at this
        omega
      have HX : Hid (Lib.index (s.extract 2 s.size).data.toList (ByteArray.mk #[42, 47]).data.toList = x) := Lib.hid (by rw [Lib.extract_to_end, hx])
      have HM : Hid (blank s.data.toList = if 0 ≤ x then 2 + x.toNat + 2 else 0) := Lib.hid (by unfold blank; rw [h1, h2, hx]; rfl)
      have hsx : (s.extract 2 s.size).size < 4294967281 := by rw [Lib.size_eq, Lib.extract_to_end, List.length_drop]; omega
      have HE := Lib.hid hsx
      clear h1 h2 hx hl2 hsx
      by_cases h0 : 0 ≤ x
      · obtain ⟨n, rfl⟩ := Int.eq_ofNat_of_zero_le h0
        clear hsz h0
        go_enter Tryd.func16, Tryd.ntmps16
        go_wp2_with (first | (go_at_call 22; refine (Tryd.strings_HasPrefix _ _ _).mono ?_; rintro e w' ⟨rfl, hw'⟩; rw [hw']; first | rw [show Lib.hasPrefix s.data.toList (ByteArray.mk #[47, 47]).data.toList = false from H1.out] | rw [show Lib.hasPrefix s.data.toList (ByteArray.mk #[47, 42]).data.toList = true from H2.out]; clear hw') | (go_at_call 30; refine (Tryd.strings_Index _ _ m _ HE.out hm).mono ?_; rintro e w' ⟨rfl, hw'⟩; rw [hw', HX.out]; clear hw'))
        go_ret
        exact ⟨by rw [HM.out, if_pos (by omega)]; simp, rfl⟩
      · clear hsz
        go_enter Tryd.func16, Tryd.ntmps16
        go_wp2_with (first | (go_at_call 22; refine (Tryd.strings_HasPrefix _ _ _).mono ?_; rintro e w' ⟨rfl, hw'⟩; rw [hw']; first | rw [show Lib.hasPrefix s.data.toList (ByteArray.mk #[47, 47]).data.toList = false from H1.out] | rw [show Lib.hasPrefix s.data.toList (ByteArray.mk #[47, 42]).data.toList = true from H2.out]; clear hw') | (go_at_call 30; refine (Tryd.strings_Index _ _ m _ HE.out hm).mono ?_; rintro e w' ⟨rfl, hw'⟩; rw [hw', HX.out]; clear hw'))
        go_ret
        exact ⟨by rw [HM.out, if_neg (by omega)]; rfl, rfl⟩
    | false =>
      have H2 := Lib.hid h2
      clear hm
      by_cases h0 : s.size = 0
      · have hnil : s.data.toList = [] := List.eq_nil_of_length_eq_zero (by omega)
        have hse : s = ⟨#[]⟩ := by rw [← B_of s, hnil]; rfl
        subst hse
        clear hsz h0
        go_enter Tryd.func16, Tryd.ntmps16
        go_wp2_with (go_at_call 22; refine (Tryd.strings_HasPrefix _ _ _).mono ?_; rintro e w' ⟨rfl, hw'⟩; rw [hw']; clear hw')
        go_ret
        exact ⟨rfl, rfl⟩
      · have hpos : 0 < s.size := by omega
        have hnn : s.data.toList ≠ [] := by intro h; rw [h] at hsz; exact h0 hsz
        have HM : Hid (blank s.data.toList = if wsB s[0] then 1 else 0) := by
          refine Lib.hid ?_
          unfold blank
          rw [h1, h2]
          rw [← getD_at s 0 hpos]
          cases hd : s.data.toList with
          | nil => exact absurd hd hnn
          | cons c t => rfl
        have hemp : s.toList.isEmpty = false := by
          rw [Lib.toList_data]
          cases hd : s.data.toList with
          | nil => exact absurd hd hnn
          | cons c t => rfl
        have HS := Lib.hid hsz
        clear h1 h2 hsz hnn h0
        go_enter Tryd.func16, Tryd.ntmps16
        go_wp2_with (go_at_call 22; refine (Tryd.strings_HasPrefix _ _ _).mono ?_; rintro e w' ⟨rfl, hw'⟩; rw [hw']; (first | rw [show Lib.hasPrefix s.data.toList (ByteArray.mk #[47, 47]).data.toList = false from H1.out] | rw [show Lib.hasPrefix s.data.toList (ByteArray.mk #[47, 42]).data.toList = false from H2.out]); clear hw')
        all_goals
          go_ret
          refine ⟨?_, rfl⟩
          rw [HM.out]
          by_cases hw : (s[0].toNat : Int) = 32 ∨ (s[0].toNat : Int) = 9 ∨ (s[0].toNat : Int) = 10 ∨ (s[0].toNat : Int) = 13
          · rw [if_pos (ws_yes _ hw)]
            first | rfl | (exfalso; (simp only [beq_eq_false_iff_ne, ne_eq] at *); omega)
          · rw [if_neg (ws_no _ hw)]
            first | rfl | (exfalso; omega) | (exfalso; (simp only [beq_iff_eq] at *); omega)
end Go.Proofs.YtamimaoaafapbaaDoor
