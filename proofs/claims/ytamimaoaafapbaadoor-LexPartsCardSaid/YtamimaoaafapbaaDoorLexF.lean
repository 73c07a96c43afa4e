import Derived.Test.YtamimaoaafapbaaDoorLexE
namespace Go.Proofs.YtamimaoaafapbaaDoor
open Go Go.RowKit

theorem bcell {W w1 : World} (hb : Below W.heap.size W w1) : (∀ b o, b < W.heap.size → w1.cell? ⟨b, o, none⟩ = W.cell? ⟨b, o, none⟩) ∧ (∀ b o, b < W.heap.size → w1.frozen? ⟨b, o, none⟩ = W.frozen? ⟨b, o, none⟩) :=
  ⟨fun b o h => hb.cell (p := ⟨b, o, none⟩) h, fun b o h => hb.frozen (p := ⟨b, o, none⟩) h⟩

theorem numberT_eq (l : List UInt8) (k v : Nat) (u lg bad : Bool) (k1 k2 : Nat) (hk : numEnd l = k) (hv : numVal l = some v) (hu : isAt l k 117 = u) (h1 : k1 = k + if u then 1 else 0) (hl : isAt l k1 108 = lg) (h2 : k2 = k1 + if lg then 1 else 0) (hb : (decide (k2 < l.length) && partB (l.getD k2 0).toNat) = bad) :
    numberT l = if bad then none else some { kind := 3, text := l.take k2, at_ := 0, value := v, uns := u, long := lg } := by
  have e1 : numEnd1 l = k1 := by unfold numEnd1; rw [hk, hu, h1]
  have e2 : numEnd2 l = k2 := by unfold numEnd2; rw [e1, hl, h2]
  have e3 : numBad l = bad := by unfold numBad; rw [e2, hb]
  unfold numberT
  rw [hv]
  simp only [e3, e2, e1, hk, hu, hl]

theorem isAt_out (s : ByteArray) (k : Nat) (c : UInt8) (h : ¬ k < s.size) : isAt s.data.toList k c = false := by
  unfold isAt
  rw [decide_eq_false (by rw [← Lib.size_eq]; exact h)]; rfl
theorem isAt_in (s : ByteArray) (k : Nat) (c : UInt8) (b : Bool) (h : k < s.size) (hb : (((s[k].toNat : Int)) == (c.toNat : Int)) = b) : isAt s.data.toList k c = b := by
  unfold isAt
  rw [decide_eq_true (by rw [← Lib.size_eq]; exact h), Bool.true_and, getD_at s k h, ← hb]
  rw [Bool.eq_iff_iff, beq_iff_eq, beq_iff_eq]
  constructor
  · intro h; rw [h]
  · intro h; exact UInt8.toNat_inj.1 (by omega)
theorem bad_out (s : ByteArray) (k : Nat) (h : ¬ k < s.size) : (decide (k < s.data.toList.length) && partB (s.data.toList.getD k 0).toNat) = false := by
  rw [decide_eq_false (by rw [← Lib.size_eq]; exact h)]; rfl
theorem bad_in (s : ByteArray) (k : Nat) (b : Bool) (h : k < s.size) (hb : partB ((s[k].toNat : Int)) = b) : (decide (k < s.data.toList.length) && partB (s.data.toList.getD k 0).toNat) = b := by
  rw [decide_eq_true (by rw [← Lib.size_eq]; exact h), Bool.true_and, getD_at s k h, hb]


set_option maxHeartbeats 8000000 in
theorem number_dec (s : ByteArray) (hs : s.size ≤ 1048576) (w : World) (hg : G w) (hx : Lib.hasPrefix s.data.toList [48, 120] = false) :
    Calls Tryd.prog 20 #[.string s] w fun e w' => TokRes (numberT s.data.toList) e ∧ Below w.heap.size w w' := by
  have HS := Lib.hid (Lib.size_eq s)
  have HF : Hid (numFrom s.data.toList = 0) := Lib.hid (by unfold numFrom; rw [hx]; rfl)
  have HB : Hid (numBase s.data.toList = 10) := Lib.hid (by unfold numBase; rw [hx]; rfl)
  have h2s : 0 ≤ s.size := by
    omega
  have HX := Lib.hid hx
  clear hx
  go_enter Tryd.func20, Tryd.ntmps20
  go_wp2_with (go_at_call 22; refine (Tryd.strings_HasPrefix _ _ _).mono ?_; rintro e w' ⟨rfl, hw'⟩; rw [hw', show Lib.hasPrefix s.data.toList (ByteArray.mk #[48, 120]).data.toList = false from HX.out])
  go_loop [6] (fun vk => ∃ k : Nat, vk = .int .i64 k ∧ k ≤ s.size ∧ 0 ≤ k ∧ Hid (numEnd s.data.toList = k + runLen (fun c => baseB 10 c.toNat) (s.data.toList.drop k))) (fun vk => s.size - (intOf vk).toNat)
  case atStart => exact ⟨0, rfl, by omega, by omega, Lib.hid (by unfold numEnd; rw [HF.out, HB.out]; rfl)⟩
  case round =>
    obtain ⟨k, rfl, hk, hfk, HK⟩ := hrel
    by_cases hcont : ∃ h : k < s.size, baseB 10 (s[k].toNat : Int) = true
    · obtain ⟨hlt, hp⟩ := hcont
      have HR : Hid (numEnd s.data.toList = (k + 1) + runLen (fun c => baseB 10 c.toNat) (s.data.toList.drop (k + 1))) := by
        have h1 := run_step (fun c => baseB 10 c.toNat) s.data.toList k (by rw [← HS.out]; exact hlt)
        rw [← byte_at s k hlt, hp, if_pos rfl] at h1
        have h2 := HK.out
        rw [h1] at h2
        exact Lib.hid (by omega)
      have HP := Lib.hid hp
      clear hp
      go_wp2_with (go_at_call 19; refine (isDigit_any _ _ _).mono ?_; rintro e w' ⟨rfl, rfl⟩; rw [HP.out])
      go_round
      case rel => exact ⟨k + 1, by go_num, by omega, by omega, HR⟩
      case measure => simp [intOf]; omega
    · have HE : Hid (numEnd s.data.toList = k) := by
        have h2 := HK.out
        by_cases hlt : k < s.size
        · have h1 := run_step (fun c => baseB 10 c.toNat) s.data.toList k (by rw [← HS.out]; exact hlt)
          have hp : baseB 10 (s[k].toNat : Int) = false := by
            cases h : baseB 10 (s[k].toNat : Int)
            · rfl
            · exact absurd ⟨hlt, h⟩ hcont
          rw [← byte_at s k hlt, hp, if_neg (by simp)] at h1
          exact Lib.hid (by omega)
        · rw [run_end _ _ _ (by rw [← HS.out]; omega)] at h2
          exact Lib.hid (by omega)
      have c1 := Lib.hid (fun w hg => parse_any s hs 0 k 10 (.inl rfl) HF.out.symm HB.out.symm HE.out.symm hk w hg)
      have HC : Hid (∀ h : k < s.size, baseB 10 ((s[k]'h).toNat : Int) = false) := by
        refine Lib.hid (fun h => ?_)
        cases h' : baseB 10 (s[k].toNat : Int)
        · rfl
        · exact absurd ⟨h, h'⟩ hcont
      clear hcont HK
      by_cases hlt : k < s.size
      · have HP : Hid (baseB 10 (s[k].toNat : Int) = false) := Lib.hid (HC.out hlt)
        go_wp2_with (go_at_call 19; refine (isDigit_any _ _ _).mono ?_; rintro e w' ⟨rfl, rfl⟩; rw [HP.out])
        clear HP
        have hg1 : G (w.alloc (.cells #[.int .i64 0, .string ⟨#[]⟩, .int .i64 0, .int .u64 0, .bool false, .bool false] 36)) := hg.below ((Below.refl _ _).alloc (Nat.le_refl _) _)
        refine (c1.out _ hg1).mono ?_
        rintro e w1 ⟨hr, hb⟩
        have hb0 : Below w.heap.size w w1 := ((Below.refl _ _).alloc (Nat.le_refl _) _).trans (hb.mono (by simp))
        obtain ⟨hc, hf⟩ := bcell hb
        have hz : w.heap.size < w1.heap.size := by have := hb.size; simp at this; omega
        have hne : ¬ w.heap.size = w1.heap.size := by omega
        cases hv : numVal s.data.toList with
        | none =>
          rw [hv] at hr
          obtain ⟨x, N, rfl⟩ := hr
          have HN : Hid (numberT s.data.toList = none) := Lib.hid (by unfold numberT; rw [hv])
          clear hv c1 hg hg1
          go_wp2
          refine bodyPost_ret (v := .tuple #[tokV tok0, .bool false]) ?_ rfl (none_post _ HN.out ?_)
          · simp [results, Tryd.results20, go_sem, tokV, tok0, hc]; rfl
          · ((repeat (first | (with_reducible exact hb0) | (with_reducible apply Below.setCell) | (with_reducible apply Below.alloc))) <;> first | omega | (simp <;> omega))
        | some v =>
          rw [hv] at hr
          obtain rfl := hr
          have HV := Lib.hid hv
          clear hv c1 hg hg1
          cases h117 : ((s[k].toNat : Int) == 117) with
          | false =>
            cases h108 : ((s[k].toNat : Int) == 108) with
            | false =>
              cases hp : partB ((s[k].toNat : Int)) with
              | true =>
                have HP := Lib.hid hp
                have HN : Hid (numberT s.data.toList = none) := Lib.hid ((numberT_eq s.data.toList k v false false true k k HE.out HV.out (isAt_in s k 117 false (by omega) h117) rfl (isAt_in s k 108 false (by omega) h108) rfl (bad_in s k true (by omega) hp)).trans rfl)
                clear hp
                go_wp2_with (go_at_call 31; refine (isPart_any _ _).mono ?_; rintro e w' ⟨rfl, rfl⟩; rw [HP.out])
                refine bodyPost_ret (v := .tuple #[tokV tok0, .bool false]) ?_ rfl (none_post _ HN.out ?_)
                · simp [results, Tryd.results20, go_sem, tokV, tok0, hz, hc]; rfl
                · ((repeat (first | (with_reducible exact hb0) | (with_reducible apply Below.setCell) | (with_reducible apply Below.alloc))) <;> first | omega | (simp <;> omega))
              | false =>
                have HP := Lib.hid hp
                have HN : Hid (numberT s.data.toList = some { kind := 3, text := s.data.toList.take k, at_ := 0, value := v, uns := false, long := false }) := Lib.hid ((numberT_eq s.data.toList k v false false false k k HE.out HV.out (isAt_in s k 117 false (by omega) h117) rfl (isAt_in s k 108 false (by omega) h108) rfl (bad_in s k false (by omega) hp)).trans rfl)
                have hX := B_extract s 0 k
                rw [List.drop_zero, Nat.sub_zero] at hX
                have HX := Lib.hid hX
                clear hX
                clear hp
                go_wp2_with (go_at_call 31; refine (isPart_any _ _).mono ?_; rintro e w' ⟨rfl, rfl⟩; rw [HP.out])
                refine bodyPost_ret (v := .tuple #[tokV { kind := 3, text := s.data.toList.take k, at_ := 0, value := v, uns := false, long := false }, .bool true]) ?_ rfl (some_post _ _ HN.out ?_)
                · rw [HX.out]; simp [results, Tryd.results20, go_sem, tokV, hz, hc]
                · ((repeat (first | (with_reducible exact hb0) | (with_reducible apply Below.setCell) | (with_reducible apply Below.alloc))) <;> first | omega | (simp <;> omega))
            | true =>
              by_cases hq : (k + 1) < s.size
              · cases hp : partB ((s[(k + 1)].toNat : Int)) with
                | true =>
                  have HP := Lib.hid hp
                  have HN : Hid (numberT s.data.toList = none) := Lib.hid ((numberT_eq s.data.toList k v false true true k (k + 1) HE.out HV.out (isAt_in s k 117 false (by omega) h117) rfl (isAt_in s k 108 true (by omega) h108) rfl (bad_in s (k + 1) true hq hp)).trans rfl)
                  clear hp
                  go_wp2_with (go_at_call 31; refine (isPart_any _ _).mono ?_; rintro e w' ⟨rfl, rfl⟩; rw [HP.out])
                  refine bodyPost_ret (v := .tuple #[tokV tok0, .bool false]) ?_ rfl (none_post _ HN.out ?_)
                  · simp [results, Tryd.results20, go_sem, tokV, tok0, hz, hc]; rfl
                  · ((repeat (first | (with_reducible exact hb0) | (with_reducible apply Below.setCell) | (with_reducible apply Below.alloc))) <;> first | omega | (simp <;> omega))
                | false =>
                  have HP := Lib.hid hp
                  have HN : Hid (numberT s.data.toList = some { kind := 3, text := s.data.toList.take (k + 1), at_ := 0, value := v, uns := false, long := true }) := Lib.hid ((numberT_eq s.data.toList k v false true false k (k + 1) HE.out HV.out (isAt_in s k 117 false (by omega) h117) rfl (isAt_in s k 108 true (by omega) h108) rfl (bad_in s (k + 1) false hq hp)).trans rfl)
                  have hX := B_extract s 0 (k + 1)
                  rw [List.drop_zero, Nat.sub_zero] at hX
                  have HX := Lib.hid hX
                  clear hX
                  clear hp
                  go_wp2_with (go_at_call 31; refine (isPart_any _ _).mono ?_; rintro e w' ⟨rfl, rfl⟩; rw [HP.out])
                  refine bodyPost_ret (v := .tuple #[tokV { kind := 3, text := s.data.toList.take (k + 1), at_ := 0, value := v, uns := false, long := true }, .bool true]) ?_ rfl (some_post _ _ HN.out ?_)
                  · rw [HX.out]; simp [results, Tryd.results20, go_sem, tokV, hz, hc]
                  · ((repeat (first | (with_reducible exact hb0) | (with_reducible apply Below.setCell) | (with_reducible apply Below.alloc))) <;> first | omega | (simp <;> omega))
              · skip
                have HN : Hid (numberT s.data.toList = some { kind := 3, text := s.data.toList.take (k + 1), at_ := 0, value := v, uns := false, long := true }) := Lib.hid ((numberT_eq s.data.toList k v false true false k (k + 1) HE.out HV.out (isAt_in s k 117 false (by omega) h117) rfl (isAt_in s k 108 true (by omega) h108) rfl (bad_out s (k + 1) hq)).trans rfl)
                have hX := B_extract s 0 (k + 1)
                rw [List.drop_zero, Nat.sub_zero] at hX
                have HX := Lib.hid hX
                clear hX
                go_wp2
                refine bodyPost_ret (v := .tuple #[tokV { kind := 3, text := s.data.toList.take (k + 1), at_ := 0, value := v, uns := false, long := true }, .bool true]) ?_ rfl (some_post _ _ HN.out ?_)
                · rw [HX.out]; simp [results, Tryd.results20, go_sem, tokV, hz, hc]
                · ((repeat (first | (with_reducible exact hb0) | (with_reducible apply Below.setCell) | (with_reducible apply Below.alloc))) <;> first | omega | (simp <;> omega))
          | true =>
            by_cases hl1 : k + 1 < s.size
            · cases h108 : ((s[k + 1].toNat : Int) == 108) with
              | false =>
                cases hp : partB ((s[(k + 1)].toNat : Int)) with
                | true =>
                  have HP := Lib.hid hp
                  have HN : Hid (numberT s.data.toList = none) := Lib.hid ((numberT_eq s.data.toList k v true false true (k + 1) (k + 1) HE.out HV.out (isAt_in s k 117 true (by omega) h117) rfl (isAt_in s (k + 1) 108 false (by omega) h108) rfl (bad_in s (k + 1) true (by omega) hp)).trans rfl)
                  clear hp
                  go_wp2_with (go_at_call 31; refine (isPart_any _ _).mono ?_; rintro e w' ⟨rfl, rfl⟩; rw [HP.out])
                  refine bodyPost_ret (v := .tuple #[tokV tok0, .bool false]) ?_ rfl (none_post _ HN.out ?_)
                  · simp [results, Tryd.results20, go_sem, tokV, tok0, hz, hc]; rfl
                  · ((repeat (first | (with_reducible exact hb0) | (with_reducible apply Below.setCell) | (with_reducible apply Below.alloc))) <;> first | omega | (simp <;> omega))
                | false =>
                  have HP := Lib.hid hp
                  have HN : Hid (numberT s.data.toList = some { kind := 3, text := s.data.toList.take (k + 1), at_ := 0, value := v, uns := true, long := false }) := Lib.hid ((numberT_eq s.data.toList k v true false false (k + 1) (k + 1) HE.out HV.out (isAt_in s k 117 true (by omega) h117) rfl (isAt_in s (k + 1) 108 false (by omega) h108) rfl (bad_in s (k + 1) false (by omega) hp)).trans rfl)
                  have hX := B_extract s 0 (k + 1)
                  rw [List.drop_zero, Nat.sub_zero] at hX
                  have HX := Lib.hid hX
                  clear hX
                  clear hp
                  go_wp2_with (go_at_call 31; refine (isPart_any _ _).mono ?_; rintro e w' ⟨rfl, rfl⟩; rw [HP.out])
                  refine bodyPost_ret (v := .tuple #[tokV { kind := 3, text := s.data.toList.take (k + 1), at_ := 0, value := v, uns := true, long := false }, .bool true]) ?_ rfl (some_post _ _ HN.out ?_)
                  · rw [HX.out]; simp [results, Tryd.results20, go_sem, tokV, hz, hc]
                  · ((repeat (first | (with_reducible exact hb0) | (with_reducible apply Below.setCell) | (with_reducible apply Below.alloc))) <;> first | omega | (simp <;> omega))
              | true =>
                by_cases hq : (k + 1 + 1) < s.size
                · cases hp : partB ((s[(k + 1 + 1)].toNat : Int)) with
                  | true =>
                    have HP := Lib.hid hp
                    have HN : Hid (numberT s.data.toList = none) := Lib.hid ((numberT_eq s.data.toList k v true true true (k + 1) (k + 1 + 1) HE.out HV.out (isAt_in s k 117 true (by omega) h117) rfl (isAt_in s (k + 1) 108 true (by omega) h108) rfl (bad_in s (k + 1 + 1) true hq hp)).trans rfl)
                    clear hp
                    go_wp2_with (go_at_call 31; refine (isPart_any _ _).mono ?_; rintro e w' ⟨rfl, rfl⟩; rw [HP.out])
                    refine bodyPost_ret (v := .tuple #[tokV tok0, .bool false]) ?_ rfl (none_post _ HN.out ?_)
                    · simp [results, Tryd.results20, go_sem, tokV, tok0, hz, hc]; rfl
                    · ((repeat (first | (with_reducible exact hb0) | (with_reducible apply Below.setCell) | (with_reducible apply Below.alloc))) <;> first | omega | (simp <;> omega))
                  | false =>
                    have HP := Lib.hid hp
                    have HN : Hid (numberT s.data.toList = some { kind := 3, text := s.data.toList.take (k + 1 + 1), at_ := 0, value := v, uns := true, long := true }) := Lib.hid ((numberT_eq s.data.toList k v true true false (k + 1) (k + 1 + 1) HE.out HV.out (isAt_in s k 117 true (by omega) h117) rfl (isAt_in s (k + 1) 108 true (by omega) h108) rfl (bad_in s (k + 1 + 1) false hq hp)).trans rfl)
                    have hX := B_extract s 0 (k + 1 + 1)
                    rw [List.drop_zero, Nat.sub_zero] at hX
                    have HX := Lib.hid hX
                    clear hX
                    clear hp
                    go_wp2_with (go_at_call 31; refine (isPart_any _ _).mono ?_; rintro e w' ⟨rfl, rfl⟩; rw [HP.out])
                    refine bodyPost_ret (v := .tuple #[tokV { kind := 3, text := s.data.toList.take (k + 1 + 1), at_ := 0, value := v, uns := true, long := true }, .bool true]) ?_ rfl (some_post _ _ HN.out ?_)
                    · rw [HX.out]; simp [results, Tryd.results20, go_sem, tokV, hz, hc]
                    · ((repeat (first | (with_reducible exact hb0) | (with_reducible apply Below.setCell) | (with_reducible apply Below.alloc))) <;> first | omega | (simp <;> omega))
                · skip
                  have HN : Hid (numberT s.data.toList = some { kind := 3, text := s.data.toList.take (k + 1 + 1), at_ := 0, value := v, uns := true, long := true }) := Lib.hid ((numberT_eq s.data.toList k v true true false (k + 1) (k + 1 + 1) HE.out HV.out (isAt_in s k 117 true (by omega) h117) rfl (isAt_in s (k + 1) 108 true (by omega) h108) rfl (bad_out s (k + 1 + 1) hq)).trans rfl)
                  have hX := B_extract s 0 (k + 1 + 1)
                  rw [List.drop_zero, Nat.sub_zero] at hX
                  have HX := Lib.hid hX
                  clear hX
                  go_wp2
                  refine bodyPost_ret (v := .tuple #[tokV { kind := 3, text := s.data.toList.take (k + 1 + 1), at_ := 0, value := v, uns := true, long := true }, .bool true]) ?_ rfl (some_post _ _ HN.out ?_)
                  · rw [HX.out]; simp [results, Tryd.results20, go_sem, tokV, hz, hc]
                  · ((repeat (first | (with_reducible exact hb0) | (with_reducible apply Below.setCell) | (with_reducible apply Below.alloc))) <;> first | omega | (simp <;> omega))
            · skip
              have HN : Hid (numberT s.data.toList = some { kind := 3, text := s.data.toList.take (k + 1), at_ := 0, value := v, uns := true, long := false }) := Lib.hid ((numberT_eq s.data.toList k v true false false (k + 1) (k + 1) HE.out HV.out (isAt_in s k 117 true (by omega) h117) rfl (isAt_out s (k + 1) 108 hl1) rfl (bad_out s (k + 1) hl1)).trans rfl)
              have hX := B_extract s 0 (k + 1)
              rw [List.drop_zero, Nat.sub_zero] at hX
              have HX := Lib.hid hX
              clear hX
              go_wp2
              refine bodyPost_ret (v := .tuple #[tokV { kind := 3, text := s.data.toList.take (k + 1), at_ := 0, value := v, uns := true, long := false }, .bool true]) ?_ rfl (some_post _ _ HN.out ?_)
              · rw [HX.out]; simp [results, Tryd.results20, go_sem, tokV, hz, hc]
              · ((repeat (first | (with_reducible exact hb0) | (with_reducible apply Below.setCell) | (with_reducible apply Below.alloc))) <;> first | omega | (simp <;> omega))

      · go_wp2_with fail
        have hg1 : G (w.alloc (.cells #[.int .i64 0, .string ⟨#[]⟩, .int .i64 0, .int .u64 0, .bool false, .bool false] 36)) := hg.below ((Below.refl _ _).alloc (Nat.le_refl _) _)
        refine (c1.out _ hg1).mono ?_
        rintro e w1 ⟨hr, hb⟩
        have hb0 : Below w.heap.size w w1 := ((Below.refl _ _).alloc (Nat.le_refl _) _).trans (hb.mono (by simp))
        obtain ⟨hc, hf⟩ := bcell hb
        have hz : w.heap.size < w1.heap.size := by have := hb.size; simp at this; omega
        have hne : ¬ w.heap.size = w1.heap.size := by omega
        cases hv : numVal s.data.toList with
        | none =>
          rw [hv] at hr
          obtain ⟨x, N, rfl⟩ := hr
          have HN : Hid (numberT s.data.toList = none) := Lib.hid (by unfold numberT; rw [hv])
          clear hv c1 hg hg1
          go_wp2
          refine bodyPost_ret (v := .tuple #[tokV tok0, .bool false]) ?_ rfl (none_post _ HN.out ?_)
          · simp [results, Tryd.results20, go_sem, tokV, tok0, hc]; rfl
          · ((repeat (first | (with_reducible exact hb0) | (with_reducible apply Below.setCell) | (with_reducible apply Below.alloc))) <;> first | omega | (simp <;> omega))
        | some v =>
          rw [hv] at hr
          obtain rfl := hr
          have HV := Lib.hid hv
          clear hv c1 hg hg1
          have HN : Hid (numberT s.data.toList = some { kind := 3, text := s.data.toList.take k, at_ := 0, value := v, uns := false, long := false }) := Lib.hid ((numberT_eq s.data.toList k v false false false k k HE.out HV.out (isAt_out s k 117 hlt) rfl (isAt_out s k 108 hlt) rfl (bad_out s k hlt)).trans rfl)
          have hX := B_extract s 0 k
          rw [List.drop_zero, Nat.sub_zero] at hX
          have HX := Lib.hid hX
          clear hX
          go_wp2
          refine bodyPost_ret (v := .tuple #[tokV { kind := 3, text := s.data.toList.take k, at_ := 0, value := v, uns := false, long := false }, .bool true]) ?_ rfl (some_post _ _ HN.out ?_)
          · rw [HX.out]; simp [results, Tryd.results20, go_sem, tokV, hz, hc]
          · ((repeat (first | (with_reducible exact hb0) | (with_reducible apply Below.setCell) | (with_reducible apply Below.alloc))) <;> first | omega | (simp <;> omega))


set_option maxHeartbeats 8000000 in
theorem number_hex (s : ByteArray) (hs : s.size ≤ 1048576) (w : World) (hg : G w) (hx : Lib.hasPrefix s.data.toList [48, 120] = true) :
    Calls Tryd.prog 20 #[.string s] w fun e w' => TokRes (numberT s.data.toList) e ∧ Below w.heap.size w w' := by
  have HS := Lib.hid (Lib.size_eq s)
  have HF : Hid (numFrom s.data.toList = 2) := Lib.hid (by unfold numFrom; rw [hx]; rfl)
  have HB : Hid (numBase s.data.toList = 16) := Lib.hid (by unfold numBase; rw [hx]; rfl)
  have h2s : 2 ≤ s.size := by
    have := hasPrefix_two _ _ _ hx; rw [HS.out]; exact this
  have HX := Lib.hid hx
  clear hx
  go_enter Tryd.func20, Tryd.ntmps20
  go_wp2_with (go_at_call 22; refine (Tryd.strings_HasPrefix _ _ _).mono ?_; rintro e w' ⟨rfl, hw'⟩; rw [hw', show Lib.hasPrefix s.data.toList (ByteArray.mk #[48, 120]).data.toList = true from HX.out])
  go_loop [6] (fun vk => ∃ k : Nat, vk = .int .i64 k ∧ k ≤ s.size ∧ 2 ≤ k ∧ Hid (numEnd s.data.toList = k + runLen (fun c => baseB 16 c.toNat) (s.data.toList.drop k))) (fun vk => s.size - (intOf vk).toNat)
  case atStart => exact ⟨2, rfl, by omega, by omega, Lib.hid (by unfold numEnd; rw [HF.out, HB.out]; rfl)⟩
  case round =>
    obtain ⟨k, rfl, hk, hfk, HK⟩ := hrel
    by_cases hcont : ∃ h : k < s.size, baseB 16 (s[k].toNat : Int) = true
    · obtain ⟨hlt, hp⟩ := hcont
      have HR : Hid (numEnd s.data.toList = (k + 1) + runLen (fun c => baseB 16 c.toNat) (s.data.toList.drop (k + 1))) := by
        have h1 := run_step (fun c => baseB 16 c.toNat) s.data.toList k (by rw [← HS.out]; exact hlt)
        rw [← byte_at s k hlt, hp, if_pos rfl] at h1
        have h2 := HK.out
        rw [h1] at h2
        exact Lib.hid (by omega)
      have HP := Lib.hid hp
      clear hp
      go_wp2_with (go_at_call 19; refine (isDigit_any _ _ _).mono ?_; rintro e w' ⟨rfl, rfl⟩; rw [HP.out])
      go_round
      case rel => exact ⟨k + 1, by go_num, by omega, by omega, HR⟩
      case measure => simp [intOf]; omega
    · have HE : Hid (numEnd s.data.toList = k) := by
        have h2 := HK.out
        by_cases hlt : k < s.size
        · have h1 := run_step (fun c => baseB 16 c.toNat) s.data.toList k (by rw [← HS.out]; exact hlt)
          have hp : baseB 16 (s[k].toNat : Int) = false := by
            cases h : baseB 16 (s[k].toNat : Int)
            · rfl
            · exact absurd ⟨hlt, h⟩ hcont
          rw [← byte_at s k hlt, hp, if_neg (by simp)] at h1
          exact Lib.hid (by omega)
        · rw [run_end _ _ _ (by rw [← HS.out]; omega)] at h2
          exact Lib.hid (by omega)
      have c1 := Lib.hid (fun w hg => parse_any s hs 2 k 16 (.inr rfl) HF.out.symm HB.out.symm HE.out.symm hk w hg)
      have HC : Hid (∀ h : k < s.size, baseB 16 ((s[k]'h).toNat : Int) = false) := by
        refine Lib.hid (fun h => ?_)
        cases h' : baseB 16 (s[k].toNat : Int)
        · rfl
        · exact absurd ⟨h, h'⟩ hcont
      clear hcont HK
      by_cases hlt : k < s.size
      · have HP : Hid (baseB 16 (s[k].toNat : Int) = false) := Lib.hid (HC.out hlt)
        go_wp2_with (go_at_call 19; refine (isDigit_any _ _ _).mono ?_; rintro e w' ⟨rfl, rfl⟩; rw [HP.out])
        clear HP
        have hg1 : G (w.alloc (.cells #[.int .i64 0, .string ⟨#[]⟩, .int .i64 0, .int .u64 0, .bool false, .bool false] 36)) := hg.below ((Below.refl _ _).alloc (Nat.le_refl _) _)
        refine (c1.out _ hg1).mono ?_
        rintro e w1 ⟨hr, hb⟩
        have hb0 : Below w.heap.size w w1 := ((Below.refl _ _).alloc (Nat.le_refl _) _).trans (hb.mono (by simp))
        obtain ⟨hc, hf⟩ := bcell hb
        have hz : w.heap.size < w1.heap.size := by have := hb.size; simp at this; omega
        have hne : ¬ w.heap.size = w1.heap.size := by omega
        cases hv : numVal s.data.toList with
        | none =>
          rw [hv] at hr
          obtain ⟨x, N, rfl⟩ := hr
          have HN : Hid (numberT s.data.toList = none) := Lib.hid (by unfold numberT; rw [hv])
          clear hv c1 hg hg1
          go_wp2
          refine bodyPost_ret (v := .tuple #[tokV tok0, .bool false]) ?_ rfl (none_post _ HN.out ?_)
          · simp [results, Tryd.results20, go_sem, tokV, tok0, hc]; rfl
          · ((repeat (first | (with_reducible exact hb0) | (with_reducible apply Below.setCell) | (with_reducible apply Below.alloc))) <;> first | omega | (simp <;> omega))
        | some v =>
          rw [hv] at hr
          obtain rfl := hr
          have HV := Lib.hid hv
          clear hv c1 hg hg1
          cases h117 : ((s[k].toNat : Int) == 117) with
          | false =>
            cases h108 : ((s[k].toNat : Int) == 108) with
            | false =>
              cases hp : partB ((s[k].toNat : Int)) with
              | true =>
                have HP := Lib.hid hp
                have HN : Hid (numberT s.data.toList = none) := Lib.hid ((numberT_eq s.data.toList k v false false true k k HE.out HV.out (isAt_in s k 117 false (by omega) h117) rfl (isAt_in s k 108 false (by omega) h108) rfl (bad_in s k true (by omega) hp)).trans rfl)
                clear hp
                go_wp2_with (go_at_call 31; refine (isPart_any _ _).mono ?_; rintro e w' ⟨rfl, rfl⟩; rw [HP.out])
                refine bodyPost_ret (v := .tuple #[tokV tok0, .bool false]) ?_ rfl (none_post _ HN.out ?_)
                · simp [results, Tryd.results20, go_sem, tokV, tok0, hz, hc]; rfl
                · ((repeat (first | (with_reducible exact hb0) | (with_reducible apply Below.setCell) | (with_reducible apply Below.alloc))) <;> first | omega | (simp <;> omega))
              | false =>
                have HP := Lib.hid hp
                have HN : Hid (numberT s.data.toList = some { kind := 3, text := s.data.toList.take k, at_ := 0, value := v, uns := false, long := false }) := Lib.hid ((numberT_eq s.data.toList k v false false false k k HE.out HV.out (isAt_in s k 117 false (by omega) h117) rfl (isAt_in s k 108 false (by omega) h108) rfl (bad_in s k false (by omega) hp)).trans rfl)
                have hX := B_extract s 0 k
                rw [List.drop_zero, Nat.sub_zero] at hX
                have HX := Lib.hid hX
                clear hX
                clear hp
                go_wp2_with (go_at_call 31; refine (isPart_any _ _).mono ?_; rintro e w' ⟨rfl, rfl⟩; rw [HP.out])
                refine bodyPost_ret (v := .tuple #[tokV { kind := 3, text := s.data.toList.take k, at_ := 0, value := v, uns := false, long := false }, .bool true]) ?_ rfl (some_post _ _ HN.out ?_)
                · rw [HX.out]; simp [results, Tryd.results20, go_sem, tokV, hz, hc]
                · ((repeat (first | (with_reducible exact hb0) | (with_reducible apply Below.setCell) | (with_reducible apply Below.alloc))) <;> first | omega | (simp <;> omega))
            | true =>
              by_cases hq : (k + 1) < s.size
              · cases hp : partB ((s[(k + 1)].toNat : Int)) with
                | true =>
                  have HP := Lib.hid hp
                  have HN : Hid (numberT s.data.toList = none) := Lib.hid ((numberT_eq s.data.toList k v false true true k (k + 1) HE.out HV.out (isAt_in s k 117 false (by omega) h117) rfl (isAt_in s k 108 true (by omega) h108) rfl (bad_in s (k + 1) true hq hp)).trans rfl)
                  clear hp
                  go_wp2_with (go_at_call 31; refine (isPart_any _ _).mono ?_; rintro e w' ⟨rfl, rfl⟩; rw [HP.out])
                  refine bodyPost_ret (v := .tuple #[tokV tok0, .bool false]) ?_ rfl (none_post _ HN.out ?_)
                  · simp [results, Tryd.results20, go_sem, tokV, tok0, hz, hc]; rfl
                  · ((repeat (first | (with_reducible exact hb0) | (with_reducible apply Below.setCell) | (with_reducible apply Below.alloc))) <;> first | omega | (simp <;> omega))
                | false =>
                  have HP := Lib.hid hp
                  have HN : Hid (numberT s.data.toList = some { kind := 3, text := s.data.toList.take (k + 1), at_ := 0, value := v, uns := false, long := true }) := Lib.hid ((numberT_eq s.data.toList k v false true false k (k + 1) HE.out HV.out (isAt_in s k 117 false (by omega) h117) rfl (isAt_in s k 108 true (by omega) h108) rfl (bad_in s (k + 1) false hq hp)).trans rfl)
                  have hX := B_extract s 0 (k + 1)
                  rw [List.drop_zero, Nat.sub_zero] at hX
                  have HX := Lib.hid hX
                  clear hX
                  clear hp
                  go_wp2_with (go_at_call 31; refine (isPart_any _ _).mono ?_; rintro e w' ⟨rfl, rfl⟩; rw [HP.out])
                  refine bodyPost_ret (v := .tuple #[tokV { kind := 3, text := s.data.toList.take (k + 1), at_ := 0, value := v, uns := false, long := true }, .bool true]) ?_ rfl (some_post _ _ HN.out ?_)
                  · rw [HX.out]; simp [results, Tryd.results20, go_sem, tokV, hz, hc]
                  · ((repeat (first | (with_reducible exact hb0) | (with_reducible apply Below.setCell) | (with_reducible apply Below.alloc))) <;> first | omega | (simp <;> omega))
              · skip
                have HN : Hid (numberT s.data.toList = some { kind := 3, text := s.data.toList.take (k + 1), at_ := 0, value := v, uns := false, long := true }) := Lib.hid ((numberT_eq s.data.toList k v false true false k (k + 1) HE.out HV.out (isAt_in s k 117 false (by omega) h117) rfl (isAt_in s k 108 true (by omega) h108) rfl (bad_out s (k + 1) hq)).trans rfl)
                have hX := B_extract s 0 (k + 1)
                rw [List.drop_zero, Nat.sub_zero] at hX
                have HX := Lib.hid hX
                clear hX
                go_wp2
                refine bodyPost_ret (v := .tuple #[tokV { kind := 3, text := s.data.toList.take (k + 1), at_ := 0, value := v, uns := false, long := true }, .bool true]) ?_ rfl (some_post _ _ HN.out ?_)
                · rw [HX.out]; simp [results, Tryd.results20, go_sem, tokV, hz, hc]
                · ((repeat (first | (with_reducible exact hb0) | (with_reducible apply Below.setCell) | (with_reducible apply Below.alloc))) <;> first | omega | (simp <;> omega))
          | true =>
            by_cases hl1 : k + 1 < s.size
            · cases h108 : ((s[k + 1].toNat : Int) == 108) with
              | false =>
                cases hp : partB ((s[(k + 1)].toNat : Int)) with
                | true =>
                  have HP := Lib.hid hp
                  have HN : Hid (numberT s.data.toList = none) := Lib.hid ((numberT_eq s.data.toList k v true false true (k + 1) (k + 1) HE.out HV.out (isAt_in s k 117 true (by omega) h117) rfl (isAt_in s (k + 1) 108 false (by omega) h108) rfl (bad_in s (k + 1) true (by omega) hp)).trans rfl)
                  clear hp
                  go_wp2_with (go_at_call 31; refine (isPart_any _ _).mono ?_; rintro e w' ⟨rfl, rfl⟩; rw [HP.out])
                  refine bodyPost_ret (v := .tuple #[tokV tok0, .bool false]) ?_ rfl (none_post _ HN.out ?_)
                  · simp [results, Tryd.results20, go_sem, tokV, tok0, hz, hc]; rfl
                  · ((repeat (first | (with_reducible exact hb0) | (with_reducible apply Below.setCell) | (with_reducible apply Below.alloc))) <;> first | omega | (simp <;> omega))
                | false =>
                  have HP := Lib.hid hp
                  have HN : Hid (numberT s.data.toList = some { kind := 3, text := s.data.toList.take (k + 1), at_ := 0, value := v, uns := true, long := false }) := Lib.hid ((numberT_eq s.data.toList k v true false false (k + 1) (k + 1) HE.out HV.out (isAt_in s k 117 true (by omega) h117) rfl (isAt_in s (k + 1) 108 false (by omega) h108) rfl (bad_in s (k + 1) false (by omega) hp)).trans rfl)
                  have hX := B_extract s 0 (k + 1)
                  rw [List.drop_zero, Nat.sub_zero] at hX
                  have HX := Lib.hid hX
                  clear hX
                  clear hp
                  go_wp2_with (go_at_call 31; refine (isPart_any _ _).mono ?_; rintro e w' ⟨rfl, rfl⟩; rw [HP.out])
                  refine bodyPost_ret (v := .tuple #[tokV { kind := 3, text := s.data.toList.take (k + 1), at_ := 0, value := v, uns := true, long := false }, .bool true]) ?_ rfl (some_post _ _ HN.out ?_)
                  · rw [HX.out]; simp [results, Tryd.results20, go_sem, tokV, hz, hc]
                  · ((repeat (first | (with_reducible exact hb0) | (with_reducible apply Below.setCell) | (with_reducible apply Below.alloc))) <;> first | omega | (simp <;> omega))
              | true =>
                by_cases hq : (k + 1 + 1) < s.size
                · cases hp : partB ((s[(k + 1 + 1)].toNat : Int)) with
                  | true =>
                    have HP := Lib.hid hp
                    have HN : Hid (numberT s.data.toList = none) := Lib.hid ((numberT_eq s.data.toList k v true true true (k + 1) (k + 1 + 1) HE.out HV.out (isAt_in s k 117 true (by omega) h117) rfl (isAt_in s (k + 1) 108 true (by omega) h108) rfl (bad_in s (k + 1 + 1) true hq hp)).trans rfl)
                    clear hp
                    go_wp2_with (go_at_call 31; refine (isPart_any _ _).mono ?_; rintro e w' ⟨rfl, rfl⟩; rw [HP.out])
                    refine bodyPost_ret (v := .tuple #[tokV tok0, .bool false]) ?_ rfl (none_post _ HN.out ?_)
                    · simp [results, Tryd.results20, go_sem, tokV, tok0, hz, hc]; rfl
                    · ((repeat (first | (with_reducible exact hb0) | (with_reducible apply Below.setCell) | (with_reducible apply Below.alloc))) <;> first | omega | (simp <;> omega))
                  | false =>
                    have HP := Lib.hid hp
                    have HN : Hid (numberT s.data.toList = some { kind := 3, text := s.data.toList.take (k + 1 + 1), at_ := 0, value := v, uns := true, long := true }) := Lib.hid ((numberT_eq s.data.toList k v true true false (k + 1) (k + 1 + 1) HE.out HV.out (isAt_in s k 117 true (by omega) h117) rfl (isAt_in s (k + 1) 108 true (by omega) h108) rfl (bad_in s (k + 1 + 1) false hq hp)).trans rfl)
                    have hX := B_extract s 0 (k + 1 + 1)
                    rw [List.drop_zero, Nat.sub_zero] at hX
                    have HX := Lib.hid hX
                    clear hX
                    clear hp
                    go_wp2_with (go_at_call 31; refine (isPart_any _ _).mono ?_; rintro e w' ⟨rfl, rfl⟩; rw [HP.out])
                    refine bodyPost_ret (v := .tuple #[tokV { kind := 3, text := s.data.toList.take (k + 1 + 1), at_ := 0, value := v, uns := true, long := true }, .bool true]) ?_ rfl (some_post _ _ HN.out ?_)
                    · rw [HX.out]; simp [results, Tryd.results20, go_sem, tokV, hz, hc]
                    · ((repeat (first | (with_reducible exact hb0) | (with_reducible apply Below.setCell) | (with_reducible apply Below.alloc))) <;> first | omega | (simp <;> omega))
                · skip
                  have HN : Hid (numberT s.data.toList = some { kind := 3, text := s.data.toList.take (k + 1 + 1), at_ := 0, value := v, uns := true, long := true }) := Lib.hid ((numberT_eq s.data.toList k v true true false (k + 1) (k + 1 + 1) HE.out HV.out (isAt_in s k 117 true (by omega) h117) rfl (isAt_in s (k + 1) 108 true (by omega) h108) rfl (bad_out s (k + 1 + 1) hq)).trans rfl)
                  have hX := B_extract s 0 (k + 1 + 1)
                  rw [List.drop_zero, Nat.sub_zero] at hX
                  have HX := Lib.hid hX
                  clear hX
                  go_wp2
                  refine bodyPost_ret (v := .tuple #[tokV { kind := 3, text := s.data.toList.take (k + 1 + 1), at_ := 0, value := v, uns := true, long := true }, .bool true]) ?_ rfl (some_post _ _ HN.out ?_)
                  · rw [HX.out]; simp [results, Tryd.results20, go_sem, tokV, hz, hc]
                  · ((repeat (first | (with_reducible exact hb0) | (with_reducible apply Below.setCell) | (with_reducible apply Below.alloc))) <;> first | omega | (simp <;> omega))
            · skip
              have HN : Hid (numberT s.data.toList = some { kind := 3, text := s.data.toList.take (k + 1), at_ := 0, value := v, uns := true, long := false }) := Lib.hid ((numberT_eq s.data.toList k v true false false (k + 1) (k + 1) HE.out HV.out (isAt_in s k 117 true (by omega) h117) rfl (isAt_out s (k + 1) 108 hl1) rfl (bad_out s (k + 1) hl1)).trans rfl)
              have hX := B_extract s 0 (k + 1)
              rw [List.drop_zero, Nat.sub_zero] at hX
              have HX := Lib.hid hX
              clear hX
              go_wp2
              refine bodyPost_ret (v := .tuple #[tokV { kind := 3, text := s.data.toList.take (k + 1), at_ := 0, value := v, uns := true, long := false }, .bool true]) ?_ rfl (some_post _ _ HN.out ?_)
              · rw [HX.out]; simp [results, Tryd.results20, go_sem, tokV, hz, hc]
              · ((repeat (first | (with_reducible exact hb0) | (with_reducible apply Below.setCell) | (with_reducible apply Below.alloc))) <;> first | omega | (simp <;> omega))

      · go_wp2_with fail
        have hg1 : G (w.alloc (.cells #[.int .i64 0, .string ⟨#[]⟩, .int .i64 0, .int .u64 0, .bool false, .bool false] 36)) := hg.below ((Below.refl _ _).alloc (Nat.le_refl _) _)
        refine (c1.out _ hg1).mono ?_
        rintro e w1 ⟨hr, hb⟩
        have hb0 : Below w.heap.size w w1 := ((Below.refl _ _).alloc (Nat.le_refl _) _).trans (hb.mono (by simp))
        obtain ⟨hc, hf⟩ := bcell hb
        have hz : w.heap.size < w1.heap.size := by have := hb.size; simp at this; omega
        have hne : ¬ w.heap.size = w1.heap.size := by omega
        cases hv : numVal s.data.toList with
        | none =>
          rw [hv] at hr
          obtain ⟨x, N, rfl⟩ := hr
          have HN : Hid (numberT s.data.toList = none) := Lib.hid (by unfold numberT; rw [hv])
          clear hv c1 hg hg1
          go_wp2
          refine bodyPost_ret (v := .tuple #[tokV tok0, .bool false]) ?_ rfl (none_post _ HN.out ?_)
          · simp [results, Tryd.results20, go_sem, tokV, tok0, hc]; rfl
          · ((repeat (first | (with_reducible exact hb0) | (with_reducible apply Below.setCell) | (with_reducible apply Below.alloc))) <;> first | omega | (simp <;> omega))
        | some v =>
          rw [hv] at hr
          obtain rfl := hr
          have HV := Lib.hid hv
          clear hv c1 hg hg1
          have HN : Hid (numberT s.data.toList = some { kind := 3, text := s.data.toList.take k, at_ := 0, value := v, uns := false, long := false }) := Lib.hid ((numberT_eq s.data.toList k v false false false k k HE.out HV.out (isAt_out s k 117 hlt) rfl (isAt_out s k 108 hlt) rfl (bad_out s k hlt)).trans rfl)
          have hX := B_extract s 0 k
          rw [List.drop_zero, Nat.sub_zero] at hX
          have HX := Lib.hid hX
          clear hX
          go_wp2
          refine bodyPost_ret (v := .tuple #[tokV { kind := 3, text := s.data.toList.take k, at_ := 0, value := v, uns := false, long := false }, .bool true]) ?_ rfl (some_post _ _ HN.out ?_)
          · rw [HX.out]; simp [results, Tryd.results20, go_sem, tokV, hz, hc]
          · ((repeat (first | (with_reducible exact hb0) | (with_reducible apply Below.setCell) | (with_reducible apply Below.alloc))) <;> first | omega | (simp <;> omega))


theorem number_any (s : ByteArray) (hs : s.size ≤ 1048576) (w : World) (hg : G w) :
    Calls Tryd.prog 20 #[.string s] w fun e w' => TokRes (numberT s.data.toList) e ∧ Below w.heap.size w w' := by
  cases hx : Lib.hasPrefix s.data.toList [48, 120] with
  | true => exact number_hex s hs w hg hx
  | false => exact number_dec s hs w hg hx
end Go.Proofs.YtamimaoaafapbaaDoor
