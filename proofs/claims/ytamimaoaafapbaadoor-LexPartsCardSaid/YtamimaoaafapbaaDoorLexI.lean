import Derived.Test.YtamimaoaafapbaaDoorLexH
namespace Go.Proofs.YtamimaoaafapbaaDoor
open Go Go.RowKit

theorem indexByte_lt : ∀ (l : List UInt8) (c : UInt8), Lib.indexByte l c ≤ l.length := by
  intro l c
  induction l with
  | nil => simp [Lib.indexByte]
  | cons b l ih =>
    unfold Lib.indexByte
    split
    · simp; omega
    · split
      · simp; omega
      · simp; omega
theorem blank_le (l : List UInt8) : blank l ≤ l.length := by
  unfold blank
  split
  · split
    · have := indexByte_lt l 10; omega
    · exact Nat.le_refl _
  · split
    · rename_i h2
      split
      · rename_i h0
        have := hasPrefix_two _ _ _ h2
        have h3 := Lib.index_room _ _ h0
        rw [List.length_drop] at h3
        simp at h3
        omega
      · omega
    · split
      · simp
      · split <;> simp

theorem blanksF_zero (f : Nat) (l : List UInt8) (h : blank l = 0) : blanksF (f + 1) l = 0 := by
  unfold blanksF; rw [if_pos h]
theorem blanksF_succ (f : Nat) (l : List UInt8) (h : blank l ≠ 0) : blanksF (f + 1) l = blank l + blanksF f (l.drop (blank l)) := by
  conv => lhs; unfold blanksF
  rw [if_neg h]
theorem blanksF_le : ∀ (f : Nat) (l : List UInt8), blanksF f l ≤ l.length := by
  intro f
  induction f with
  | zero => intro l; simp [blanksF]
  | succ f ih =>
    intro l
    by_cases h : blank l = 0
    · rw [blanksF_zero _ _ h]; omega
    · rw [blanksF_succ _ _ h]
      have h1 := ih (l.drop (blank l))
      have h2 := blank_le l
      rw [List.length_drop] at h1
      omega
theorem blanks_le (l : List UInt8) : blanks l ≤ l.length := blanksF_le _ _

set_option maxHeartbeats 1000000 in
theorem blanks_any (s : ByteArray) (hs : s.size ≤ 1048576) (w : World) (hg : G w) :
    Calls Tryd.prog 12 #[.string s] w fun e w' => e = .returned (.int .i64 (blanks s.data.toList)) ∧ w = w' := by
  have HG := Lib.hid hg
  have HS := Lib.hid (Lib.size_eq s)
  clear hg
  go_enter Tryd.func12, Tryd.ntmps12
  go_wp2
  go_loop [3] (fun vn => ∃ n f : Nat, vn = .int .i64 n ∧ n ≤ s.size ∧ s.size < n + f ∧ Hid (blanks s.data.toList = n + blanksF f (s.data.toList.drop n))) (fun vn => s.size - (intOf vn).toNat)
  case atStart => exact ⟨0, s.size + 1, rfl, by omega, by omega, Lib.hid (by unfold blanks; rw [HS.out, Nat.zero_add]; rfl)⟩
  case round =>
    obtain ⟨n, f, rfl, hn, hf, HK⟩ := hrel
    obtain ⟨f, rfl⟩ : ∃ f', f = f' + 1 := ⟨f - 1, by omega⟩
    have c1 := Lib.hid (fun w hg => blank_any (s.extract n s.size) (by rw [Lib.size_eq, Lib.extract_to_end, List.length_drop, ← HS.out]; omega) w hg)
    obtain ⟨k, hk⟩ : ∃ k, k = blank (s.data.toList.drop n) := ⟨_, rfl⟩
    have hkl : k ≤ s.size - n := by have := blank_le (s.data.toList.drop n); rw [List.length_drop, ← HS.out] at this; omega
    have HB : Hid (blank (s.extract n s.size).data.toList = k) := Lib.hid (by rw [Lib.extract_to_end, hk])
    by_cases h0 : k = 0
    · have HR : Hid (blanks s.data.toList = n) := by
        have h2 := HK.out
        rw [blanksF_zero _ _ (by rw [← hk, h0])] at h2
        exact Lib.hid h2
      subst h0
      clear hk hkl
      go_wp2_with (go_at_call 16; refine (c1.out _ HG.out).mono ?_; rintro e w' ⟨rfl, rfl⟩; rw [HB.out])
      go_ret
      exact ⟨by rw [HR.out]; rfl, rfl⟩
    · have HR : Hid (blanks s.data.toList = (n + k) + blanksF f (s.data.toList.drop (n + k))) := by
        have h2 := HK.out
        rw [blanksF_succ _ _ (by rw [← hk]; exact h0), ← hk, List.drop_drop] at h2
        exact Lib.hid (by omega)
      have hkb : ((k : Int) == 0) = false := by simp; omega
      clear hk
      go_wp2_with (go_at_call 16; refine (c1.out _ HG.out).mono ?_; rintro e w' ⟨rfl, rfl⟩; rw [HB.out])
      go_round
      case rel => exact ⟨n + k, f, by go_num, by omega, by omega, HR⟩
      case measure => simp [intOf]; omega
end Go.Proofs.YtamimaoaafapbaaDoor
