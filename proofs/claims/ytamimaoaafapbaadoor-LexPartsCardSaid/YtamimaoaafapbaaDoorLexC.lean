import Derived.Test.YtamimaoaafapbaaDoorLexB
import Derived.RegionTactic
import Derived.ChangeAlike
namespace Go.Proofs.YtamimaoaafapbaaDoor
open Go Go.RowKit

theorem getD_at (s : ByteArray) (k : Nat) (h : k < s.size) : s.data.toList.getD k 0 = s[k] := by
  rw [byte_at s k h]
  simp [List.getD, List.getElem?_eq_getElem (show k < s.data.toList.length by rw [← Lib.size_eq]; exact h)]
theorem u8_eq (c : UInt8) (n : Nat) (hn : n < 256) : (((c.toNat : Int) == (n : Int)) = true) ↔ c = n.toUInt8 := by
  rw [beq_iff_eq]
  constructor
  · intro h
    have : c.toNat = n := by omega
    rw [← this]; simp
  · rintro rfl
    simp
    omega

theorem none_post (o : Option Tok) (h : o = none) {w w' : World} (hb : Below w.heap.size w w') : TokRes o (.returned (.tuple #[tokV tok0, .bool false])) ∧ Below w.heap.size w w' := by
  rw [h]; exact ⟨⟨tok0, rfl⟩, hb⟩
theorem some_post (o : Option Tok) (t : Tok) (h : o = some t) {w w' : World} (hb : Below w.heap.size w w') : TokRes o (.returned (.tuple #[tokV t, .bool true])) ∧ Below w.heap.size w w' := by
  rw [h]; exact ⟨rfl, hb⟩

set_option maxHeartbeats 1000000 in
theorem char_small (s : ByteArray) (hs : s.size ≤ 1048576) (h3 : s.size < 3) (w : World) :
    Calls Tryd.prog 21 #[.string s] w fun e w' => TokRes (charT s.data.toList) e ∧ Below w.heap.size w w' := by
  have HM : Hid (charT s.data.toList = none) := by
    have := Lib.size_eq s
    exact Lib.hid (by unfold charT; rw [if_neg (by omega), if_neg (by omega)])
  go_enter Tryd.func21, Tryd.ntmps21
  go_wp2
  exact bodyPost_ret (v := .tuple #[tokV tok0, .bool false]) (by simp [results, Tryd.results21, go_sem, tokV, tok0]; rfl) rfl (none_post _ HM.out ((Below.refl _ _).alloc (Nat.le_refl _) _))

set_option maxHeartbeats 1000000 in
/-- Where the first form is out: the second. 'hA': why. -/
theorem char_plain (s : ByteArray) (hs : s.size ≤ 1048576) (h3 : 3 ≤ s.size) (hA : s.size < 4 ∨ (((s[1].toNat : Int) == 92) = false)) (w : World) :
    Calls Tryd.prog 21 #[.string s] w fun e w' => TokRes (charT s.data.toList) e ∧ Below w.heap.size w w' := by
  have g1 := getD_at s 1 (by omega)
  have g2 := getD_at s 2 (by omega)
  have HM : Hid (charT s.data.toList = if plainB s[1].toNat = true ∧ s[2] = 39 then some { kind := 3, text := s.data.toList.take 3, at_ := 0, value := s[1].toNat, uns := false, long := false } else none) := by
    refine Lib.hid ?_
    have hsz := Lib.size_eq s
    have hn : ¬ (4 ≤ s.data.toList.length ∧ s[1] = 92 ∧ s.data.toList.getD 3 0 = 39) := by
      rintro ⟨h4, h92, _⟩
      rcases hA with h | h
      · omega
      · rw [h92] at h; simp at h
    unfold charT
    rw [g1, g2, if_neg hn]
    by_cases hp : plainB s[1].toNat = true ∧ s[2] = 39
    · rw [if_pos ⟨by omega, hp.1, hp.2⟩, if_pos hp]
    · rw [if_neg (fun h => hp h.2), if_neg hp]
  have hX := B_extract s 0 3
  rw [List.drop_zero, Nat.sub_zero] at hX
  have HX := Lib.hid hX
  clear hX g1 g2
  cases hp : plainB ((s[1].toNat : Int)) with
  | false =>
    have HN : Hid (charT s.data.toList = none) := Lib.hid (by rw [HM.out, if_neg (by rw [hp]; simp)])
    have HP := Lib.hid hp
    clear hp HM
    rcases hA with h4 | h92
    · go_enter Tryd.func21, Tryd.ntmps21
      go_wp2_with (go_at_call 35; refine (isPlain_any _ _).mono ?_; rintro e w' ⟨rfl, rfl⟩; rw [HP.out])
      exact bodyPost_ret (v := .tuple #[tokV tok0, .bool false]) (by simp [results, Tryd.results21, go_sem, tokV, tok0]; rfl) rfl (none_post _ HN.out ((Below.refl _ _).alloc (Nat.le_refl _) _))
    · by_cases h4 : 4 ≤ s.size
      all_goals
        go_enter Tryd.func21, Tryd.ntmps21
        go_wp2_with (go_at_call 35; refine (isPlain_any _ _).mono ?_; rintro e w' ⟨rfl, rfl⟩; rw [HP.out])
        exact bodyPost_ret (v := .tuple #[tokV tok0, .bool false]) (by simp [results, Tryd.results21, go_sem, tokV, tok0]; rfl) rfl (none_post _ HN.out ((Below.refl _ _).alloc (Nat.le_refl _) _))
  | true =>
    cases h39 : ((s[2].toNat : Int) == 39) with
    | false =>
      have HN : Hid (charT s.data.toList = none) := Lib.hid (by
        rw [HM.out, if_neg]
        rintro ⟨_, h⟩
        rw [h] at h39; simp at h39)
      have HP := Lib.hid hp
      clear hp HM
      by_cases h4 : 4 ≤ s.size
      · have h92 : ((s[1].toNat : Int) == 92) = false := by rcases hA with h | h; omega; exact h
        go_enter Tryd.func21, Tryd.ntmps21
        go_wp2_with (go_at_call 35; refine (isPlain_any _ _).mono ?_; rintro e w' ⟨rfl, rfl⟩; rw [HP.out])
        exact bodyPost_ret (v := .tuple #[tokV tok0, .bool false]) (by simp [results, Tryd.results21, go_sem, tokV, tok0]; rfl) rfl (none_post _ HN.out ((Below.refl _ _).alloc (Nat.le_refl _) _))
      · clear hA
        go_enter Tryd.func21, Tryd.ntmps21
        go_wp2_with (go_at_call 35; refine (isPlain_any _ _).mono ?_; rintro e w' ⟨rfl, rfl⟩; rw [HP.out])
        exact bodyPost_ret (v := .tuple #[tokV tok0, .bool false]) (by simp [results, Tryd.results21, go_sem, tokV, tok0]; rfl) rfl (none_post _ HN.out ((Below.refl _ _).alloc (Nat.le_refl _) _))
    | true =>
      have HN : Hid (charT s.data.toList = some { kind := 3, text := s.data.toList.take 3, at_ := 0, value := s[1].toNat, uns := false, long := false }) := Lib.hid (by
        rw [HM.out, if_pos]
        exact ⟨hp, (u8_eq s[2] 39 (by omega)).1 h39⟩)
      have HP := Lib.hid hp
      clear hp HM
      have hlt := s[1].toNat_lt
      by_cases h4 : 4 ≤ s.size
      · have h92 : ((s[1].toNat : Int) == 92) = false := by rcases hA with h | h; omega; exact h
        clear hA
        go_enter Tryd.func21, Tryd.ntmps21
        go_wp2_with (go_at_call 35; refine (isPlain_any _ _).mono ?_; rintro e w' ⟨rfl, rfl⟩; rw [HP.out])
        go_region
        go_wp2
        refine bodyPost_ret (v := .tuple #[tokV { kind := 3, text := s.data.toList.take 3, at_ := 0, value := s[1].toNat, uns := false, long := false }, .bool true]) ?_ rfl (some_post _ _ HN.out ?_)
        · rw [HX.out]; simp [results, Tryd.results21, go_sem, tokV]
        · exact ((Below.refl _ _).alloc (Nat.le_refl _) _).drew
      · clear hA
        go_enter Tryd.func21, Tryd.ntmps21
        go_wp2_with (go_at_call 35; refine (isPlain_any _ _).mono ?_; rintro e w' ⟨rfl, rfl⟩; rw [HP.out])
        go_region
        go_wp2
        refine bodyPost_ret (v := .tuple #[tokV { kind := 3, text := s.data.toList.take 3, at_ := 0, value := s[1].toNat, uns := false, long := false }, .bool true]) ?_ rfl (some_post _ _ HN.out ?_)
        · rw [HX.out]; simp [results, Tryd.results21, go_sem, tokV]
        · exact ((Below.refl _ _).alloc (Nat.le_refl _) _).drew
end Go.Proofs.YtamimaoaafapbaaDoor
