import Derived.Test.YtamimaoaafapbaaDoorLexRA
namespace Go.Proofs.YtamimaoaafapbaaDoor
open Go Go.RowKit

def skO (l : List UInt8) (z : Nat) : Bool := Lib.hasPrefix (l.drop z) [47, 42]
def skA (l : List UInt8) (a : Nat) : Int := if skO l (zAt l a) then -1 else zAt l a
def skB (l : List UInt8) (a : Nat) : Int := if skO l (zAt l a) then zAt l a else 0

theorem ws_ne (c : UInt8) (h : wsB c = false) : (c.toNat : Int) ≠ 32 ∧ (c.toNat : Int) ≠ 9 ∧ (c.toNat : Int) ≠ 10 ∧ (c.toNat : Int) ≠ 13 := by
  have key : ∀ k : UInt8, (k == 32 || k == 9 || k == 10 || k == 13) = true → c ≠ k := by
    rintro k hk rfl
    unfold wsB at h
    rw [hk] at h; cases h
  refine ⟨fun e => key 32 (by decide) ?_, fun e => key 9 (by decide) ?_, fun e => key 10 (by decide) ?_, fun e => key 13 (by decide) ?_⟩ <;>
    (apply UInt8.toNat_inj.1; simp; omega)
theorem ws_eq (c : UInt8) (h : wsB c = true) : (c.toNat : Int) = 32 ∨ (c.toNat : Int) = 9 ∨ (c.toNat : Int) = 10 ∨ (c.toNat : Int) = 13 := by
  unfold wsB at h
  simp only [Bool.or_eq_true, beq_iff_eq] at h
  rcases h with ((h | h) | h) | h <;> subst h <;> simp

theorem ext2 (s : ByteArray) (k : Nat) (a b : UInt8) (h : k + 1 < s.size) : ((s.extract k (k + 2)).toList == [a, b]) = Lib.hasPrefix (s.data.toList.drop k) [a, b] := by
  rw [pre_take _ _ _ _ (by rw [← Lib.size_eq]; exact h), Lib.extract_toList, show k + 2 - k = 2 from by omega]
theorem pre_room (s : ByteArray) (k : Nat) (a b : UInt8) (h : Lib.hasPrefix (s.data.toList.drop k) [a, b] = true) : k + 1 < s.size := by
  rcases Nat.lt_or_ge (k + 1) s.size with h1 | h1
  · exact h1
  · rw [pre_short _ _ _ _ (by rw [← Lib.size_eq]; exact h1)] at h; cases h
theorem drop_getD (s : ByteArray) (k : Nat) (h : k < s.size) : (s.data.toList.drop k).getD 0 0 = s[k] := by
  have h2 : k < s.data.toList.length := by rw [← Lib.size_eq]; exact h
  rw [List.drop_eq_getElem_cons h2, List.getD_cons_zero]; rfl
theorem line_step (s : ByteArray) (j : Nat) (h : j < s.size) (h1 : (s[j] != 10) = true) : j + runLen (fun c => c != 10) (s.data.toList.drop j) = (j + 1) + runLen (fun c => c != 10) (s.data.toList.drop (j + 1)) := by
  have h2 : j < s.data.toList.length := by rw [← Lib.size_eq]; exact h
  rw [run_step (fun c => c != 10) s.data.toList j h2, if_pos (show (s.data.toList[j] != 10) = true from h1)]
  omega
theorem line_end (s : ByteArray) (k j : Nat) (hp : Lib.hasPrefix (s.data.toList.drop k) [47, 47] = true) (h : k + runLen (fun c => c != 10) (s.data.toList.drop k) = j + runLen (fun c => c != 10) (s.data.toList.drop j))
    (he : j = s.size ∨ ∃ h : j < s.size, s[j] = 10) : zAt s.data.toList k = zAt s.data.toList j ∧ k < j := by
  have h0 : runLen (fun c => c != 10) (s.data.toList.drop j) = 0 := by
    rcases he with he | ⟨h1, h2⟩
    · exact run_end _ _ _ (by rw [← Lib.size_eq]; omega)
    · have h3 : j < s.data.toList.length := by rw [← Lib.size_eq]; exact h1
      rw [run_step (fun c => c != 10) s.data.toList j h3, if_neg]
      rw [show s.data.toList[j] = 10 from h2]; simp
  rw [h0] at h
  have hz := zAt_line _ _ hp
  rw [h] at hz
  refine ⟨hz, ?_⟩
  obtain ⟨t, ht⟩ := pre_len hp
  rw [ht] at h
  simp [runLen] at h
  omega
theorem nl_pre (s : ByteArray) (j : Nat) (h : j < s.size) (h1 : s[j] = 10) : Lib.hasPrefix (s.data.toList.drop j) [47, 42] = false := by
  have h2 : j < s.data.toList.length := by rw [← Lib.size_eq]; exact h
  rw [List.drop_eq_getElem_cons h2, show s.data.toList[j] = 10 from h1]
  exact pre2' 47 42 10 _ (by decide)
theorem sk_no (l : List UInt8) (a k : Nat) (h : zAt l a = k) (hp : Lib.hasPrefix (l.drop k) [47, 42] = false) : skA l a = k ∧ skB l a = 0 := by
  unfold skA skB skO; rw [h, hp]; exact ⟨rfl, rfl⟩
theorem sk_yes (l : List UInt8) (a k : Nat) (h : zAt l a = k) (hp : Lib.hasPrefix (l.drop k) [47, 42] = true) : skA l a = -1 ∧ skB l a = k := by
  unfold skA skB skO; rw [h, hp]; exact ⟨rfl, rfl⟩

set_option maxRecDepth 100000 in
set_option maxHeartbeats 4000000 in
theorem skip_any (s : ByteArray) (hs : s.size ≤ 1048576) (a0 : Nat) (ha0 : a0 ≤ s.size) (w : World) :
    Calls Tryd.prog 14 #[.string s, .int .i64 a0] w fun e w' => e = .returned (.tuple #[.int .i64 (skA s.data.toList a0), .int .i64 (skB s.data.toList a0)]) ∧ w = w' := by
  have HS := Lib.hid (Lib.size_eq s)
  go_enter Tryd.func14, Tryd.ntmps14
  go_wp2_with fail
  go_loop [1] (fun v1 => ∃ k : Nat, v1 = .int .i64 k ∧ k ≤ s.size ∧ Hid (zAt s.data.toList a0 = zAt s.data.toList k)) (fun v1 => s.size - (intOf v1).toNat)
  case atStart => exact ⟨a0, rfl, ha0, Lib.hid rfl⟩
  case round =>
    obtain ⟨o, rfl, ho, HO⟩ := hrel
    clear ha0
    go_wp2_with fail
    go_loop [1] (fun v1 => ∃ k : Nat, v1 = .int .i64 k ∧ o ≤ k ∧ k ≤ s.size ∧ Hid (zAt s.data.toList a0 = zAt s.data.toList k)) (fun v1 => s.size - (intOf v1).toNat)
    case atStart => exact ⟨o, rfl, Nat.le_refl _, ho, HO⟩
    case round =>
      obtain ⟨k, rfl, hok, hk, HK⟩ := hrel
      by_cases hlt : k < s.size
      · cases hw : wsB s[k] with
        | true =>
          have HR := Lib.hid (HK.out.trans (zAt_ws s.data.toList k (by rw [← HS.out]; exact hlt) hw))
          have hc := ws_eq _ hw
          clear hw
          rcases hc with hc | hc | hc | hc
          all_goals
            go_wp2_with fail
            go_round
            case rel => exact ⟨k + 1, by go_num, by omega, by omega, HR⟩
            case measure => simp [intOf]; omega
        | false =>
          obtain ⟨n1, n2, n3, n4⟩ := ws_ne _ hw
          have HW := Lib.hid hw
          have b1 := beq_eq_false_iff_ne.2 n1
          have b2 := beq_eq_false_iff_ne.2 n2
          have b3 := beq_eq_false_iff_ne.2 n3
          have b4 := beq_eq_false_iff_ne.2 n4
          clear hw n1 n2 n3 n4
          cases hp1 : Lib.hasPrefix (s.data.toList.drop k) [47, 47] with
          | true =>
            have hk1 : k + 1 < s.size := pre_room s k _ _ hp1
            have hx1 := (ext2 s k 47 47 hk1).trans hp1
            have HP1 := Lib.hid hp1
            have hi1 : (k : Int) + 1 < (s.size : Int) := by omega
            clear hp1
            go_wp2_with fail
            go_loop [1] (fun v1 => ∃ j : Nat, v1 = .int .i64 j ∧ k ≤ j ∧ j ≤ s.size ∧ Hid (k + runLen (fun c => c != 10) (s.data.toList.drop k) = j + runLen (fun c => c != 10) (s.data.toList.drop j))) (fun v1 => s.size - (intOf v1).toNat)
            case atStart => exact ⟨k, rfl, Nat.le_refl _, by omega, Lib.hid rfl⟩
            case round =>
              obtain ⟨j, rfl, hkj, hj, HJ⟩ := hrel
              by_cases hjl : j < s.size
              · cases h10 : (s[j] != 10) with
                | true =>
                  have HR := Lib.hid (HJ.out.trans (line_step s j hjl h10))
                  have hb : ((s[j].toNat : Int) != 10) = true := by
                    have h1 : s[j] ≠ 10 := by simpa using h10
                    simp only [bne_iff_ne, ne_eq]
                    intro h; apply h1; apply UInt8.toNat_inj.1; simp; omega
                  have hb2 : ((s[j].toNat : Int) == 10) = false := by simpa using hb
                  clear h10
                  go_wp2_with fail
                  go_round
                  case rel => exact ⟨j + 1, by go_num, by omega, by omega, HR⟩
                  case measure => simp [intOf]; omega
                | false =>
                  have h1 : s[j] = 10 := by simpa using h10
                  have hZ := line_end s k j HP1.out HJ.out (.inr ⟨hjl, h1⟩)
                  have HR := Lib.hid (HK.out.trans hZ.1)
                  have hjo := hZ.2
                  have hb : ((s[j].toNat : Int) == 10) = true := by rw [h1]; rfl
                  have hb2 : ((s[j].toNat : Int) != 10) = false := by rw [h1]; rfl
                  have hno : Lib.hasPrefix (s.data.toList.drop j) [47, 42] = false := nl_pre s j hjl h1
                  have hjo2 : ((j : Int) == (o : Int)) = false := by simp; omega
                  clear h10 hZ h1
                  by_cases hj1 : j + 1 < s.size
                  · have hx2 := (ext2 s j 47 42 hj1).trans hno
                    have hi2 : (j : Int) + 1 < (s.size : Int) := by omega
                    clear hno
                    go_wp2_with fail
                    go_round
                    case rel => exact ⟨j, rfl, by omega, HR⟩
                    case measure => simp [intOf]; omega
                  · have hi2 : ¬ (j : Int) + 1 < (s.size : Int) := by omega
                    clear hno
                    go_wp2_with fail
                    go_round
                    case rel => exact ⟨j, rfl, by omega, HR⟩
                    case measure => simp [intOf]; omega
              · have hZ := line_end s k j HP1.out HJ.out (.inl (by omega))
                have HR := Lib.hid (HK.out.trans hZ.1)
                have hjo := hZ.2
                have hjo2 : ((j : Int) == (o : Int)) = false := by simp; omega
                clear hZ
                go_wp2_with fail
                go_round
                case rel => exact ⟨j, rfl, by omega, HR⟩
                case measure => simp [intOf]; omega
          | false =>
            cases hp2 : Lib.hasPrefix (s.data.toList.drop k) [47, 42] with
            | true =>
              have hk1 : k + 1 < s.size := pre_room s k _ _ hp2
              have hx1 := (ext2 s k 47 47 hk1).trans hp1
              have hx2 := (ext2 s k 47 42 hk1).trans hp2
              have HP2 := Lib.hid hp2
              have hi1 : (k : Int) + 1 < (s.size : Int) := by omega
              clear hp1 hp2
              go_wp2_with fail
              go_loop [7] (fun v7 => ∃ i : Nat, v7 = .int .i64 ((k + 2 + i : Nat) : Int) ∧ k + 2 + i ≤ s.size ∧ Hid (Lib.NoOcc (s.data.toList.drop (k + 2)) [42, 47] i)) (fun v7 => s.size - (intOf v7).toNat)
              case atStart => exact ⟨0, rfl, by omega, Lib.hid (Lib.NoOcc.zero _ _)⟩
              case round =>
                obtain ⟨i, rfl, hi, HI⟩ := hrel
                obtain ⟨e, he⟩ : ∃ e, e = k + 2 + i := ⟨_, rfl⟩
                rw [← he] at hi ⊢
                by_cases hel : e + 1 < s.size
                · have hi2 : (e : Int) + 1 < (s.size : Int) := by omega
                  cases hp3 : Lib.hasPrefix (s.data.toList.drop e) [42, 47] with
                  | true =>
                    have hx3 := (ext2 s e 42 47 hel).trans hp3
                    have hx4 : ((s.extract e (e + 2)).toList != [42, 47]) = false := by rw [bne, hx3]; rfl
                    have HR := Lib.hid (HK.out.trans (zAt_block s.data.toList k i HP2.out HI.out (by rw [← he]; exact hp3)))
                    rw [← he] at HR
                    have hne : ((e : Int) + 2 == (o : Int)) = false := by simp; omega
                    have HEE := Lib.hid he
                    clear hp3 he
                    go_wp2_with fail
                    go_round
                    case rel => exact ⟨e + 2, by go_num, by omega, HR⟩
                    case measure => have := HEE.out; simp [intOf]; omega
                  | false =>
                    have hx3 := (ext2 s e 42 47 hel).trans hp3
                    have hx4 : ((s.extract e (e + 2)).toList != [42, 47]) = true := by rw [bne, hx3]; rfl
                    have HR : Hid (Lib.NoOcc (s.data.toList.drop (k + 2)) [42, 47] (i + 1)) := Lib.hid (HI.out.succ (by rw [occ_pre, ← he]; exact hp3))
                    have HEE := Lib.hid he
                    clear hp3 he
                    go_wp2_with fail
                    go_round
                    case rel => exact ⟨i + 1, by have := HEE.out; go_num, by have := HEE.out; omega, HR⟩
                    case measure => simp [intOf]; omega
                · have hi2 : ¬ (e : Int) + 1 < (s.size : Int) := by omega
                  have hZ := zAt_open s.data.toList k i HP2.out HI.out (by rw [← HS.out]; omega)
                  have HZ := Lib.hid (sk_yes _ _ _ (HK.out.trans hZ) HP2.out)
                  clear hZ he
                  go_wp2_with fail
                  go_ret2
                  exact ⟨by rw [HZ.out.1, HZ.out.2]; rfl, rfl⟩
            | false =>
              have hst : zAt s.data.toList k = k := zAt_stop _ _ (blank_none _ hp1 hp2 (.inr (by rw [drop_getD s k hlt]; exact HW.out)))
              have HZ := Lib.hid (sk_no _ _ _ (HK.out.trans hst) hp2)
              clear hst
              by_cases hk1 : k + 1 < s.size
              · have hx1 := (ext2 s k 47 47 hk1).trans hp1
                have hx2 := (ext2 s k 47 42 hk1).trans hp2
                have hi1 : (k : Int) + 1 < (s.size : Int) := by omega
                clear hp1 hp2
                by_cases hko : k = o
                · have hb : ((k : Int) == (o : Int)) = true := by simp [hko]
                  clear hko
                  go_wp2_with fail
                  go_ret2
                  exact ⟨by rw [HZ.out.1, HZ.out.2]; rfl, rfl⟩
                · have hb : ((k : Int) == (o : Int)) = false := by simp; omega
                  have hko2 : o < k := by omega
                  clear hko
                  go_wp2_with fail
                  go_round
                  case rel => exact ⟨k, rfl, by omega, HK⟩
                  case measure => simp [intOf]; omega
              · have hi1 : ¬ (k : Int) + 1 < (s.size : Int) := by omega
                clear hp1 hp2
                by_cases hko : k = o
                · have hb : ((k : Int) == (o : Int)) = true := by simp [hko]
                  clear hko
                  go_wp2_with fail
                  go_ret2
                  exact ⟨by rw [HZ.out.1, HZ.out.2]; rfl, rfl⟩
                · have hb : ((k : Int) == (o : Int)) = false := by simp; omega
                  have hko2 : o < k := by omega
                  clear hko
                  go_wp2_with fail
                  go_round
                  case rel => exact ⟨k, rfl, by omega, HK⟩
                  case measure => simp [intOf]; omega
      · have hnil : s.data.toList.drop k = [] := List.drop_eq_nil_of_le (by rw [← HS.out]; omega)
        have hst : zAt s.data.toList k = k := zAt_stop _ _ (by rw [hnil]; rfl)
        have HZ := Lib.hid (sk_no _ _ _ (HK.out.trans hst) (by rw [hnil]; rfl))
        clear hst hnil
        have hi1 : ¬ (k : Int) + 1 < (s.size : Int) := by omega
        by_cases hko : k = o
        · have hb : ((k : Int) == (o : Int)) = true := by simp [hko]
          clear hko
          go_wp2_with fail
          go_ret2
          exact ⟨by rw [HZ.out.1, HZ.out.2]; rfl, rfl⟩
        · have hb : ((k : Int) == (o : Int)) = false := by simp; omega
          have hko2 : o < k := by omega
          clear hko
          go_wp2_with fail
          go_round
          case rel => exact ⟨k, rfl, by omega, HK⟩
          case measure => simp [intOf]; omega
end Go.Proofs.YtamimaoaafapbaaDoor
