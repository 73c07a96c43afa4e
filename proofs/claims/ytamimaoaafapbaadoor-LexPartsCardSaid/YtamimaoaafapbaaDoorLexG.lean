import Derived.Test.YtamimaoaafapbaaDoorLexF
namespace Go.Proofs.YtamimaoaafapbaaDoor
open Go Go.RowKit

theorem tok_of (o : Option Tok) (e : Ending) (h : TokRes o e) : ∃ t b, e = .returned (.tuple #[tokV t, .bool b]) ∧ b = o.isSome ∧ ∀ t', o = some t' → t = t' := by
  cases o with
  | none => obtain ⟨t, rfl⟩ := h; exact ⟨t, false, rfl, rfl, fun _ h => by cases h⟩
  | some t => exact ⟨t, true, h, rfl, fun _ h => by injection h⟩
theorem tok_mk (o : Option Tok) (t : Tok) (b : Bool) (hb : b = o.isSome) (h : ∀ t', o = some t' → t = t') : TokRes o (.returned (.tuple #[tokV t, .bool b])) := by
  subst hb
  cases o with
  | none => exact ⟨t, rfl⟩
  | some t' => rw [h t' rfl]; rfl

set_option maxHeartbeats 1000000 in
theorem first_any (s : ByteArray) (hs : s.size ≤ 1048576) (hne : 0 < s.size) (w : World) (hg : G w) :
    Calls Tryd.prog 13 #[.string s] w fun e w' => TokRes (firstT s.data.toList) e ∧ Below w.heap.size w w' := by
  have HM : Hid (firstT s.data.toList = if letB (s[0].toNat : Int) then nameT s.data.toList else if digB (s[0].toNat : Int) then numberT s.data.toList else if (s[0].toNat : Int) = 39 then charT s.data.toList else if Lib.hasPrefix s.data.toList [47, 42] then none else signT s.data.toList) := by
    refine Lib.hid ?_
    unfold firstT
    rw [getD_at s 0 hne]
  have hg1 : G (w.alloc (.cells #[.int .i64 0, .string ⟨#[]⟩, .int .i64 0, .int .u64 0, .bool false, .bool false] 36)) := hg.below ((Below.refl _ _).alloc (Nat.le_refl _) _)
  have HG := Lib.hid hg1
  clear hg hg1
  cases hl : letB (s[0].toNat : Int) with
  | true =>
    have HL := Lib.hid hl
    have HN : Hid (firstT s.data.toList = nameT s.data.toList) := Lib.hid (by rw [HM.out, hl]; rfl)
    clear hl HM
    go_enter Tryd.func13, Tryd.ntmps13
    go_wp2_with (go_at_call 17; refine (isLetter_any _ _).mono ?_; rintro e w' ⟨rfl, rfl⟩; rw [HL.out])
    refine (name_any s hs hne _).mono ?_
    rintro e w1 ⟨hr, hb⟩
    obtain ⟨t, b, rfl, hbb, ht⟩ := tok_of _ _ hr
    have HB := Lib.hid hbb
    have HT := Lib.hid ht
    clear hbb ht hr
    have hb0 : Below w.heap.size w w1 := ((Below.refl _ _).alloc (Nat.le_refl _) _).trans (hb.mono (by simp))
    obtain ⟨hc, hf⟩ := bcell hb
    unfold tokV
    go_wp2
    refine bodyPost_ret (v := .tuple #[tokV t, .bool b]) ?_ rfl ⟨tok_mk _ t b (by rw [HN.out]; exact HB.out) (by rw [HN.out]; exact HT.out), ?_⟩
    · simp [results, Tryd.results13, go_sem, tokV, hc]
    · ((repeat (first | (with_reducible exact hb0) | (with_reducible apply Below.setCell) | (with_reducible apply Below.alloc))) <;> first | omega | (simp <;> omega))
  | false =>
    have HL := Lib.hid hl
    cases hd : digB (s[0].toNat : Int) with
    | true =>
      have HD : Hid (baseB 10 (s[0].toNat : Int) = true) := Lib.hid (by rw [← hd]; rfl)
      have HN : Hid (firstT s.data.toList = numberT s.data.toList) := Lib.hid (by rw [HM.out, hl, hd]; rfl)
      clear hl hd HM
      go_enter Tryd.func13, Tryd.ntmps13
      go_wp2_with (first | (go_at_call 17; refine (isLetter_any _ _).mono ?_; rintro e w' ⟨rfl, rfl⟩; rw [HL.out]) | (go_at_call 19; refine (isDigit_any _ _ _).mono ?_; rintro e w' ⟨rfl, rfl⟩; rw [HD.out]))
      refine (number_any s hs _ HG.out).mono ?_
      rintro e w1 ⟨hr, hb⟩
      obtain ⟨t, b, rfl, hbb, ht⟩ := tok_of _ _ hr
      have HB := Lib.hid hbb
      have HT := Lib.hid ht
      clear hbb ht hr
      have hb0 : Below w.heap.size w w1 := ((Below.refl _ _).alloc (Nat.le_refl _) _).trans (hb.mono (by simp))
      obtain ⟨hc, hf⟩ := bcell hb
      unfold tokV
      go_wp2
      refine bodyPost_ret (v := .tuple #[tokV t, .bool b]) ?_ rfl ⟨tok_mk _ t b (by rw [HN.out]; exact HB.out) (by rw [HN.out]; exact HT.out), ?_⟩
      · simp [results, Tryd.results13, go_sem, tokV, hc]
      · ((repeat (first | (with_reducible exact hb0) | (with_reducible apply Below.setCell) | (with_reducible apply Below.alloc))) <;> first | omega | (simp <;> omega))
    | false =>
      have HD : Hid (baseB 10 (s[0].toNat : Int) = false) := Lib.hid (by rw [← hd]; rfl)
      cases h39 : ((s[0].toNat : Int) == 39) with
      | true =>
        have HN : Hid (firstT s.data.toList = charT s.data.toList) := Lib.hid (by rw [HM.out, hl, hd, if_neg (by simp), if_neg (by simp), if_pos (by simpa using h39)])
        clear hl hd HM
        go_enter Tryd.func13, Tryd.ntmps13
        go_wp2_with (first | (go_at_call 17; refine (isLetter_any _ _).mono ?_; rintro e w' ⟨rfl, rfl⟩; rw [HL.out]) | (go_at_call 19; refine (isDigit_any _ _ _).mono ?_; rintro e w' ⟨rfl, rfl⟩; rw [HD.out]))
        refine (char_any s hs _).mono ?_
        rintro e w1 ⟨hr, hb⟩
        obtain ⟨t, b, rfl, hbb, ht⟩ := tok_of _ _ hr
        have HB := Lib.hid hbb
        have HT := Lib.hid ht
        clear hbb ht hr
        have hb0 : Below w.heap.size w w1 := ((Below.refl _ _).alloc (Nat.le_refl _) _).trans (hb.mono (by simp))
        obtain ⟨hc, hf⟩ := bcell hb
        unfold tokV
        go_wp2
        refine bodyPost_ret (v := .tuple #[tokV t, .bool b]) ?_ rfl ⟨tok_mk _ t b (by rw [HN.out]; exact HB.out) (by rw [HN.out]; exact HT.out), ?_⟩
        · simp [results, Tryd.results13, go_sem, tokV, hc]
        · ((repeat (first | (with_reducible exact hb0) | (with_reducible apply Below.setCell) | (with_reducible apply Below.alloc))) <;> first | omega | (simp <;> omega))
      | false =>
        cases hx : Lib.hasPrefix s.data.toList [47, 42] with
        | true =>
          have HX := Lib.hid hx
          have HN : Hid (firstT s.data.toList = none) := Lib.hid (by rw [HM.out, hl, hd, if_neg (by simp), if_neg (by simp), if_neg (by simpa using h39), hx]; rfl)
          clear hl hd HM hx
          go_enter Tryd.func13, Tryd.ntmps13
          go_wp2_with (first | (go_at_call 17; refine (isLetter_any _ _).mono ?_; rintro e w' ⟨rfl, rfl⟩; rw [HL.out]) | (go_at_call 19; refine (isDigit_any _ _ _).mono ?_; rintro e w' ⟨rfl, rfl⟩; rw [HD.out]) | (go_at_call 22; refine (Tryd.strings_HasPrefix _ _ _).mono ?_; rintro e w' ⟨rfl, hw'⟩; rw [hw', show Lib.hasPrefix s.data.toList (ByteArray.mk #[47, 42]).data.toList = true from HX.out]))
          exact bodyPost_ret (v := .tuple #[tokV tok0, .bool false]) (by simp [results, Tryd.results13, go_sem, tokV, tok0]; rfl) rfl (none_post _ HN.out ((Below.refl _ _).alloc (Nat.le_refl _) _))
        | false =>
          have HX := Lib.hid hx
          have HN : Hid (firstT s.data.toList = signT s.data.toList) := Lib.hid (by rw [HM.out, hl, hd, if_neg (by simp), if_neg (by simp), if_neg (by simpa using h39), hx]; rfl)
          clear hl hd HM hx
          go_enter Tryd.func13, Tryd.ntmps13
          go_wp2_with (first | (go_at_call 17; refine (isLetter_any _ _).mono ?_; rintro e w' ⟨rfl, rfl⟩; rw [HL.out]) | (go_at_call 19; refine (isDigit_any _ _ _).mono ?_; rintro e w' ⟨rfl, rfl⟩; rw [HD.out]) | (go_at_call 22; refine (Tryd.strings_HasPrefix _ _ _).mono ?_; rintro e w' ⟨rfl, hw'⟩; rw [hw', show Lib.hasPrefix s.data.toList (ByteArray.mk #[47, 42]).data.toList = false from HX.out]))
          refine (sign_any s hs hne _).mono ?_
          rintro e w1 ⟨hr, hb⟩
          obtain ⟨t, b, rfl, hbb, ht⟩ := tok_of _ _ hr
          have HB := Lib.hid hbb
          have HT := Lib.hid ht
          clear hbb ht hr
          have hb0 : Below w.heap.size w w1 := ((Below.refl _ _).alloc (Nat.le_refl _) _).trans (hb.mono (by simp))
          obtain ⟨hc, hf⟩ := bcell hb
          unfold tokV
          go_wp2
          refine bodyPost_ret (v := .tuple #[tokV t, .bool b]) ?_ rfl ⟨tok_mk _ t b (by rw [HN.out]; exact HB.out) (by rw [HN.out]; exact HT.out), ?_⟩
          · simp [results, Tryd.results13, go_sem, tokV, hc]
          · ((repeat (first | (with_reducible exact hb0) | (with_reducible apply Below.setCell) | (with_reducible apply Below.alloc))) <;> first | omega | (simp <;> omega))
end Go.Proofs.YtamimaoaafapbaaDoor
