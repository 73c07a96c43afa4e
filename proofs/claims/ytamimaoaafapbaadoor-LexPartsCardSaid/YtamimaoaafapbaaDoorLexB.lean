import Derived.Test.YtamimaoaafapbaaDoorLexA
import Derived.Test.YtamimaoaafapbaaDoorLexQ
import Derived.Laws.ResultCell
namespace Go.Proofs.YtamimaoaafapbaaDoor
open Go Go.RowKit

/-- A token as Go's struct. -/
def tokV (t : Tok) : Value := .agg #[.int .i64 t.kind, .string (B t.text), .int .i64 t.at_, .int .u64 t.value, .bool t.uns, .bool t.long]
def tok0 : Tok := { kind := 0, text := [], at_ := 0, value := 0, uns := false, long := false }
/-- A token and true; or whatever token and false. -/
def TokRes (o : Option Tok) (e : Ending) : Prop := match o with
  | some t => e = .returned (.tuple #[tokV t, .bool true])
  | none => ∃ t, e = .returned (.tuple #[tokV t, .bool false])

set_option maxHeartbeats 1000000 in
theorem sign_any (s : ByteArray) (hs : s.size ≤ 1048576) (hne : 0 < s.size) (w : World) :
    Calls Tryd.prog 23 #[.string s] w fun e w' => TokRes (signT s.data.toList) e ∧ Below w.heap.size w w' := by
  have h0 : signT s.data.toList = signDown (min 3 s.size) s.data.toList := by unfold signT; rw [Lib.size_eq]
  have H0 := Lib.hid h0
  clear h0
  have hmin : (min 3 (s.size : Int)) = ((min 3 s.size : Nat) : Int) := by omega
  have hm3 : min 3 s.size ≤ s.size := by omega
  generalize min 3 s.size = m at hmin H0 hm3
  go_enter Tryd.func23, Tryd.ntmps23
  go_wp2
  clear hmin
  go_loop [4] (fun vk => ∃ k : Nat, vk = .int .i64 k ∧ k ≤ s.size ∧ Hid (signT s.data.toList = signDown k s.data.toList)) (fun vk => (intOf vk).toNat)
  case atStart => exact ⟨m, rfl, hm3, H0⟩
  case round =>
    obtain ⟨k, rfl, hk, HK⟩ := hrel
    clear H0 hm3
    cases k with
    | zero =>
      go_wp2
      exact bodyPost_ret (v := .tuple #[tokV tok0, .bool false]) (by simp [results, Tryd.results23, go_sem, tokV, tok0]; rfl) rfl ⟨by rw [HK.out]; exact ⟨tok0, rfl⟩, (Below.refl _ _).alloc (Nat.le_refl _) _⟩
    | succ k =>
      have h1 : (0 : Int) < ((k + 1 : Nat) : Int) := by omega
      by_cases hc : signs.contains ((s.extract 0 (k + 1)).data.toList) = true
      · have HR : Hid (signT s.data.toList = some (signOf (s.data.toList.take (k + 1)))) := by
          rw [Lib.extract_data] at hc
          have e : signDown (k + 1) s.data.toList = some (signOf (s.data.toList.take (k + 1))) := by
            unfold signDown; rw [if_pos (by simpa using hc)]
          exact Lib.hid (HK.out.trans e)
        have HC := Lib.hid hc
        clear hc
        go_wp2_with (go_at_call 37; refine (isSign_any _ _).mono ?_; rintro e w' ⟨rfl, rfl⟩; rw [HC.out])
        refine bodyPost_ret (v := .tuple #[tokV (signOf (s.data.toList.take (k + 1))), .bool true]) ?_ rfl ⟨?_, ?_⟩
        · simp [results, Tryd.results23, go_sem, tokV, signOf, B_extract]
        · rw [HR.out]; rfl
        · exact ((Below.refl _ _).alloc (Nat.le_refl _) _)
      · have HR : Hid (signT s.data.toList = signDown k s.data.toList) := by
          rw [Lib.extract_data] at hc
          have e : signDown (k + 1) s.data.toList = signDown k s.data.toList := by
            conv => lhs; unfold signDown
            rw [if_neg (by simpa using hc)]
          exact Lib.hid (HK.out.trans e)
        have hc' : signs.contains ((s.extract 0 (k + 1)).data.toList) = false := by simpa using hc
        have HC := Lib.hid hc'
        clear hc hc'
        go_wp2_with (go_at_call 37; refine (isSign_any _ _).mono ?_; rintro e w' ⟨rfl, rfl⟩; rw [HC.out])
        go_round
        case rel => exact ⟨k, by go_num, by omega, HR⟩
        case measure => simp [intOf]

theorem byte_at (s : ByteArray) (k : Nat) (h : k < s.size) : s[k] = s.data.toList[k]'(by rw [← Lib.size_eq]; exact h) := rfl

set_option maxHeartbeats 1000000 in
theorem name_any (s : ByteArray) (hs : s.size ≤ 1048576) (hne : 0 < s.size) (w : World) :
    Calls Tryd.prog 18 #[.string s] w fun e w' => TokRes (nameT s.data.toList) e ∧ Below w.heap.size w w' := by
  have hsz := Lib.size_eq s
  have H0 : Hid (nameT s.data.toList = (fun n => if 40 < n then none else some { kind := if words.contains (s.data.toList.take n) then 2 else 1, text := s.data.toList.take n, at_ := 0, value := 0, uns := false, long := false }) (runLen (fun c => partB c.toNat) (s.data.toList.drop 1) + 1)) := Lib.hid rfl
  have HS := Lib.hid hsz
  clear hsz
  go_enter Tryd.func18, Tryd.ntmps18
  go_wp2
  go_loop [4] (fun vk => ∃ k : Nat, vk = .int .i64 k ∧ k ≤ s.size ∧ Hid (runLen (fun c => partB c.toNat) (s.data.toList.drop 1) + 1 = runLen (fun c => partB c.toNat) (s.data.toList.drop k) + k)) (fun vk => s.size - (intOf vk).toNat)
  case atStart => exact ⟨1, rfl, by omega, Lib.hid rfl⟩
  case round =>
    obtain ⟨k, rfl, hk, HK⟩ := hrel
    have hrun := fun (h : k < s.data.toList.length) => run_step (fun c => partB c.toNat) s.data.toList k h
    have HE : Hid (runLen (fun c => partB c.toNat) (s.data.toList.drop k) = 0 → nameT s.data.toList = if 40 < k then none else some { kind := if words.contains (s.data.toList.take k) then 2 else 1, text := s.data.toList.take k, at_ := 0, value := 0, uns := false, long := false }) := by
      refine Lib.hid (fun h0 => ?_)
      have h2 := HK.out
      rw [h0, Nat.zero_add] at h2
      rw [H0.out, h2]
    have hex := B_extract s 0 k
    rw [List.drop_zero, Nat.sub_zero] at hex
    have HX := Lib.hid hex
    clear hex
    by_cases hlt : k < s.size
    · have hb := byte_at s k hlt
      cases hp : partB ((s[k].toNat : Int)) with
      | true =>
        have HR : Hid (runLen (fun c => partB c.toNat) (s.data.toList.drop 1) + 1 = runLen (fun c => partB c.toNat) (s.data.toList.drop (k + 1)) + (k + 1)) := by
          have h1 := hrun (by rw [← HS.out]; exact hlt)
          rw [← hb, hp, if_pos rfl] at h1
          have h2 := HK.out
          rw [h1] at h2
          exact Lib.hid (by omega)
        have HP := Lib.hid hp
        clear hp hrun hb
        go_wp2_with (go_at_call 31; refine (isPart_any _ _).mono ?_; rintro e w' ⟨rfl, rfl⟩; rw [HP.out])
        go_round
        case rel => exact ⟨k + 1, by go_num, by omega, HR⟩
        case measure => simp [intOf]; omega
      | false =>
        have HF : Hid (runLen (fun c => partB c.toNat) (s.data.toList.drop k) = 0) := by
          have h1 := hrun (by rw [← HS.out]; exact hlt)
          rw [← hb, hp, if_neg (by simp)] at h1
          exact Lib.hid h1
        have HP := Lib.hid hp
        clear hp hrun hb
        by_cases h40 : 40 < k
        · go_wp2_with (go_at_call 31; refine (isPart_any _ _).mono ?_; rintro e w' ⟨rfl, rfl⟩; rw [HP.out])
          exact bodyPost_ret (v := .tuple #[tokV tok0, .bool false]) (by simp [results, Tryd.results18, go_sem, tokV, tok0]; rfl) rfl ⟨by rw [HE.out HF.out, if_pos h40]; exact ⟨tok0, rfl⟩, (Below.refl _ _).alloc (Nat.le_refl _) _⟩
        · cases hw : words.contains ((s.extract 0 k).data.toList) with
          | true =>
            have HW := Lib.hid hw
            clear hw
            go_wp2_with (first | (go_at_call 31; refine (isPart_any _ _).mono ?_; rintro e w' ⟨rfl, rfl⟩; rw [HP.out]) | (go_at_call 32; refine (isWord_any _ _).mono ?_; rintro e w' ⟨rfl, rfl⟩; rw [HW.out]))
            refine bodyPost_ret (v := .tuple #[tokV { kind := 2, text := s.data.toList.take k, at_ := 0, value := 0, uns := false, long := false }, .bool true]) ?_ rfl ⟨?_, (Below.refl _ _).alloc (Nat.le_refl _) _⟩
            · rw [HX.out]; simp [results, Tryd.results18, go_sem, tokV]
            · rw [HE.out HF.out, if_neg h40]
              have h3 := HW.out
              rw [HX.out, B_list] at h3
              rw [if_pos h3]; rfl
          | false =>
            have HW := Lib.hid hw
            clear hw
            go_wp2_with (first | (go_at_call 31; refine (isPart_any _ _).mono ?_; rintro e w' ⟨rfl, rfl⟩; rw [HP.out]) | (go_at_call 32; refine (isWord_any _ _).mono ?_; rintro e w' ⟨rfl, rfl⟩; rw [HW.out]))
            refine bodyPost_ret (v := .tuple #[tokV { kind := 1, text := s.data.toList.take k, at_ := 0, value := 0, uns := false, long := false }, .bool true]) ?_ rfl ⟨?_, (Below.refl _ _).alloc (Nat.le_refl _) _⟩
            · rw [HX.out]; simp [results, Tryd.results18, go_sem, tokV]
            · rw [HE.out HF.out, if_neg h40]
              have h3 := HW.out
              rw [HX.out, B_list] at h3
              rw [if_neg (by rw [h3]; simp)]; rfl
    · have HF : Hid (runLen (fun c => partB c.toNat) (s.data.toList.drop k) = 0) := Lib.hid (run_end _ _ _ (by rw [← HS.out]; omega))
      clear hrun
      by_cases h40 : 40 < k
      · go_wp2
        exact bodyPost_ret (v := .tuple #[tokV tok0, .bool false]) (by simp [results, Tryd.results18, go_sem, tokV, tok0]; rfl) rfl ⟨by rw [HE.out HF.out, if_pos h40]; exact ⟨tok0, rfl⟩, (Below.refl _ _).alloc (Nat.le_refl _) _⟩
      · cases hw : words.contains ((s.extract 0 k).data.toList) with
        | true =>
          have HW := Lib.hid hw
          clear hw
          go_wp2_with (go_at_call 32; refine (isWord_any _ _).mono ?_; rintro e w' ⟨rfl, rfl⟩; rw [HW.out])
          refine bodyPost_ret (v := .tuple #[tokV { kind := 2, text := s.data.toList.take k, at_ := 0, value := 0, uns := false, long := false }, .bool true]) ?_ rfl ⟨?_, (Below.refl _ _).alloc (Nat.le_refl _) _⟩
          · rw [HX.out]; simp [results, Tryd.results18, go_sem, tokV]
          · rw [HE.out HF.out, if_neg h40]
            have h3 := HW.out
            rw [HX.out, B_list] at h3
            rw [if_pos h3]; rfl
        | false =>
          have HW := Lib.hid hw
          clear hw
          go_wp2_with (go_at_call 32; refine (isWord_any _ _).mono ?_; rintro e w' ⟨rfl, rfl⟩; rw [HW.out])
          refine bodyPost_ret (v := .tuple #[tokV { kind := 1, text := s.data.toList.take k, at_ := 0, value := 0, uns := false, long := false }, .bool true]) ?_ rfl ⟨?_, (Below.refl _ _).alloc (Nat.le_refl _) _⟩
          · rw [HX.out]; simp [results, Tryd.results18, go_sem, tokV]
          · rw [HE.out HF.out, if_neg h40]
            have h3 := HW.out
            rw [HX.out, B_list] at h3
            rw [if_neg (by rw [h3]; simp)]; rfl
end Go.Proofs.YtamimaoaafapbaaDoor
