import Derived.Test.YtamimaoaafapbaaDoorLexRB
import Derived.RegionTactic
import Derived.BigQuiet
import Derived.Deep.QuietTactic
import Derived.Laws.ResultCell
import Derived.Below
import Derived.WalkSmall
namespace Go.Proofs.YtamimaoaafapbaaDoor
open Go Go.RowKit

/-- A token as the reference's struct. -/
def rTokV (t : Tok) : Value := .agg #[.int .i64 t.kind, .int .i64 t.at_, .string (B t.text), .int .u64 t.value, .bool t.uns, .bool t.long]
def rtok0 : Tok := { kind := 0, text := [], at_ := 0, value := 0, uns := false, long := false }
def rAt (a : Nat) (o : Option Tok) : Tok := (o.map (fun t => { t with at_ := a })).getD rtok0

theorem isAt_drop (l : List UInt8) (a k : Nat) (c : UInt8) (h : a ≤ k) : isAt (l.drop a) (k - a) c = isAt l k c := by
  unfold isAt
  rw [List.getD, List.getD, List.getElem?_drop, show a + (k - a) = k from by omega, List.length_drop]
  congr 1
  rw [Bool.eq_iff_iff]; simp; omega
theorem isAt_yes (s : ByteArray) (e : Nat) (c : UInt8) (h : e < s.size) (hc : (s[e].toNat : Int) = c.toNat) : isAt s.data.toList e c = true := by
  have h2 : e < s.data.toList.length := by rw [← Lib.size_eq]; exact h
  have h3 : s[e] = c := UInt8.toNat_inj.1 (by omega)
  have h4 : s.data.toList[e] = c := h3
  unfold isAt
  rw [List.getD, List.getElem?_eq_getElem h2, h4]
  simp; omega
theorem isAt_no (s : ByteArray) (e : Nat) (c : UInt8) (h : e < s.size) (hc : (s[e].toNat : Int) ≠ c.toNat) : isAt s.data.toList e c = false := by
  have h2 : e < s.data.toList.length := by rw [← Lib.size_eq]; exact h
  have h3 : s[e] ≠ c := fun h => hc (by rw [h])
  have h4 : (s.data.toList[e] == c) = false := beq_eq_false_iff_ne.2 h3
  unfold isAt
  rw [List.getD, List.getElem?_eq_getElem h2, Option.getD_some, h4, Bool.and_false]
theorem isAt_end (s : ByteArray) (e : Nat) (c : UInt8) (h : s.size ≤ e) : isAt s.data.toList e c = false := by
  unfold isAt
  rw [show decide (e < s.data.toList.length) = false from decide_eq_false (by rw [← Lib.size_eq]; omega)]; rfl
def badA (l : List UInt8) (k : Nat) : Bool := decide (k < l.length) && partB (l.getD k 0).toNat
theorem badA_drop (l : List UInt8) (a k : Nat) (h : a ≤ k) : badA (l.drop a) (k - a) = badA l k := by
  unfold badA
  rw [List.getD, List.getD, List.getElem?_drop, show a + (k - a) = k from by omega, List.length_drop]
  congr 1
  rw [Bool.eq_iff_iff]; simp; omega
theorem badA_at (s : ByteArray) (e : Nat) (h : e < s.size) : badA s.data.toList e = partB s[e].toNat := by
  have h2 : e < s.data.toList.length := by rw [← Lib.size_eq]; exact h
  unfold badA
  rw [List.getD, List.getElem?_eq_getElem h2, show decide (e < s.data.toList.length) = true from decide_eq_true h2]
  rfl
theorem badA_end (s : ByteArray) (e : Nat) (h : s.size ≤ e) : badA s.data.toList e = false := by
  unfold badA
  rw [show decide (e < s.data.toList.length) = false from decide_eq_false (by rw [← Lib.size_eq]; omega)]; rfl

theorem numT_abs (l : List UInt8) (a e v e2 : Nat) (u lo bad : Bool) (hend : a + numEnd (l.drop a) = e) (hne : e ≠ a + numFrom (l.drop a))
    (hval : valFrom (numBase (l.drop a)) 0 (((l.drop a).drop (numFrom (l.drop a))).take (numEnd (l.drop a) - numFrom (l.drop a))) = v) (hv : v < 18446744073709551616)
    (hu : isAt l e 117 = u) (hlo : isAt l (e + if u then 1 else 0) 108 = lo) (he2 : e2 = e + (if u then 1 else 0) + (if lo then 1 else 0)) (hbad : badA l e2 = bad) :
    numberT (l.drop a) = if bad then none else some { kind := 3, text := (l.drop a).take (e2 - a), at_ := 0, value := v, uns := u, long := lo } := by
  have h1 : numVal (l.drop a) = some v := by
    unfold numVal; rw [if_neg (by omega), hval, if_pos hv]
  have e0 : numEnd (l.drop a) = e - a := by omega
  have h2 : isAt (l.drop a) (numEnd (l.drop a)) 117 = u := by rw [e0, isAt_drop _ _ _ _ (by omega)]; exact hu
  have h3 : numEnd1 (l.drop a) = (e + if u then 1 else 0) - a := by unfold numEnd1; rw [h2, e0]; omega
  have h4 : isAt (l.drop a) (numEnd1 (l.drop a)) 108 = lo := by rw [h3, isAt_drop _ _ _ _ (by omega)]; exact hlo
  have h5 : numEnd2 (l.drop a) = e2 - a := by unfold numEnd2; rw [h4, h3, he2]; omega
  have h6 : numBad (l.drop a) = bad := by
    show badA (l.drop a) (numEnd2 (l.drop a)) = bad
    rw [h5, badA_drop _ _ _ (by omega)]; exact hbad
  unfold numberT
  rw [h1, h6, h2, h4, h5]
theorem numT_empty (L : List UInt8) (h : numEnd L = numFrom L) : numberT L = none := by
  unfold numberT numVal; rw [if_pos h]
theorem numT_big (L : List UInt8) (h : 18446744073709551616 ≤ valFrom (numBase L) 0 ((L.drop (numFrom L)).take (numEnd L - numFrom L))) : numberT L = none := by
  have : numVal L = none := by
    unfold numVal
    by_cases h0 : numEnd L = numFrom L
    · rw [if_pos h0]
    · rw [if_neg h0, if_neg (by omega)]
  unfold numberT; rw [this]

theorem setCell_drewN (w : World) (n : Nat) (p : Addr) (x : Value) : (w.drewN n).setCell p x = (w.setCell p x).drewN n := by
  unfold World.setCell World.drewN
  rfl
/-- The world in a round: the result's place, the token, and what was drawn. -/
def rW (w : World) (a v q : Nat) : World := ((w.alloc (.cells #[.int .i64 0, .int .i64 0, .string ⟨#[]⟩, .int .u64 0, .bool false, .bool false] 49)).alloc (.cells #[.int .i64 3, .int .i64 a, .string ⟨#[]⟩, .int .u64 v, .bool false, .bool false] 49)).drewN q
theorem rW_below (w : World) (a v q : Nat) : Below w.heap.size w (rW w a v q) :=
  below_drewN (((Below.refl _ _).alloc (Nat.le_refl _) _).alloc (by simp) _) q
theorem run_take (p : UInt8 → Bool) (l : List UInt8) (e : Nat) (h : e < l.length) (hp : p l[e] = true) : (l.drop e).take (runLen p (l.drop e)) = l[e] :: (l.drop (e + 1)).take (runLen p (l.drop (e + 1))) := by
  rw [run_step p l e h, if_pos hp, List.drop_eq_getElem_cons h, List.take_succ_cons]

theorem hexV_le (c : UInt8) (b : Int) (hb : b = 10 ∨ b = 16) (h : baseB b c.toNat = true) : hexV c ≤ 15 := by
  rcases hb with rfl | rfl
  · have h1 : 48 ≤ c.toNat ∧ c.toNat ≤ 57 := by simp [baseB, digB] at h; omega
    unfold hexV; rw [if_pos (by omega)]; omega
  · have h1 : (48 ≤ c.toNat ∧ c.toNat ≤ 57) ∨ (97 ≤ c.toNat ∧ c.toNat ≤ 102) ∨ (65 ≤ c.toNat ∧ c.toNat ≤ 70) := by simp [baseB, hexB, digB] at h; omega
    unfold hexV
    split
    · omega
    · split <;> omega

theorem num10_facts (l : List UInt8) (a : Nat) (hp : Lib.hasPrefix (l.drop a) [48, 120] = false) :
    a + numFrom (l.drop a) = a ∧ numBase (l.drop a) = 10 ∧ a + numEnd (l.drop a) = a + runLen (fun c => baseB 10 c.toNat) (l.drop (a)) ∧ ((l.drop a).drop (numFrom (l.drop a))).take (numEnd (l.drop a) - numFrom (l.drop a)) = (l.drop (a)).take (runLen (fun c => baseB 10 c.toNat) (l.drop (a))) := by
  have h1 : numFrom (l.drop a) = 0 := by unfold numFrom; rw [hp]; rfl
  have h2 : numBase (l.drop a) = 10 := by unfold numBase; rw [hp]; rfl
  have h3 : numEnd (l.drop a) = 0 + runLen (fun c => baseB 10 c.toNat) (l.drop (a)) := by
    unfold numEnd; rw [h1, h2, List.drop_drop]; rfl
  refine ⟨by rw [h1]; rfl, h2, by omega, ?_⟩
  rw [h3, h1, List.drop_drop]
  congr 1
  omega

set_option maxRecDepth 100000 in
set_option maxHeartbeats 4000000 in
theorem rnumber10 (s : ByteArray) (hs : s.size ≤ 1048576) (a : Nat) (ha : a < s.size) (hp : Lib.hasPrefix (s.data.toList.drop a) [48, 120] = false) (w : World) :
    Calls Tryd.prog 24 #[.string s, .int .i64 a] w fun e w' => e = .returned (rTokV (rAt a (numberT (s.data.toList.drop a)))) ∧ Below w.heap.size w w' := by
  have HS := Lib.hid (Lib.size_eq s)
  obtain ⟨hF, hB, hE, hT⟩ := num10_facts s.data.toList a hp
  have HF := Lib.hid hF
  have HB := Lib.hid hB
  have HE := Lib.hid hE
  have HT := Lib.hid hT
  have HP := Lib.hid hp
  clear hF hB hE hT
  have hpos : a + 1 < s.size ∨ ¬ a + 1 < s.size := Nat.lt_or_ge _ _ |>.imp id (by omega)
  rcases hpos with hk1 | hk1
  case' inl =>
    have hx1 := (ext2 s a 48 120 hk1).trans HP.out
    have hi1 : (a : Int) + 1 < (s.size : Int) := by omega
    clear hp
    go_enter Tryd.func24, Tryd.ntmps24
    go_wp2_with fail
  case' inr =>
    have hi1 : ¬ (a : Int) + 1 < (s.size : Int) := by omega
    clear hp
    go_enter Tryd.func24, Tryd.ntmps24
    go_wp2_with fail
  all_goals
    go_loopw [7] (fun v7 wr => ∃ e v : Nat, v7 = .int .i64 e ∧ a ≤ e ∧ e ≤ s.size ∧ v ≤ 18446744073709551615 ∧ (∃ q, wr = ((w.alloc (.cells #[.int .i64 0, .int .i64 0, .string ⟨#[]⟩, .int .u64 0, .bool false, .bool false] 49)).alloc (.cells #[.int .i64 3, .int .i64 a, .string ⟨#[]⟩, .int .u64 v, .bool false, .bool false] 49)).drewN q) ∧ Hid (a + runLen (fun c => baseB 10 c.toNat) (s.data.toList.drop (a)) = e + runLen (fun c => baseB 10 c.toNat) (s.data.toList.drop e)) ∧ Hid (valFrom 10 0 ((s.data.toList.drop (a)).take (runLen (fun c => baseB 10 c.toNat) (s.data.toList.drop (a)))) = valFrom 10 v ((s.data.toList.drop e).take (runLen (fun c => baseB 10 c.toNat) (s.data.toList.drop e))))) (fun v7 _ => s.size - (intOf v7).toNat)
    case atStart => exact ⟨a, 0, by go_num, Nat.le_refl _, by omega, by omega, ⟨0, rfl⟩, Lib.hid rfl, Lib.hid rfl⟩
    case round =>
      obtain ⟨e, v, rfl, hfe, hes, hv, ⟨q, rfl⟩, HL, HV⟩ := hrel
      by_cases hlt : e < s.size
      · cases hd : baseB 10 (s[e].toNat : Int) with
        | true =>
          have hl2 : e < s.data.toList.length := by rw [← HS.out]; exact hlt
          have hst := run_step (fun c => baseB 10 c.toNat) s.data.toList e hl2
          rw [if_pos (show baseB 10 (s.data.toList[e].toNat : Int) = true from hd)] at hst
          have htk := run_take (fun c => baseB 10 c.toNat) s.data.toList e hl2 hd
          obtain ⟨d, hdd⟩ : ∃ d, d = hexV s[e] := ⟨_, rfl⟩
          have hd15 : d ≤ 15 := by rw [hdd]; exact hexV_le s[e] 10 (by omega) hd
          have HR1 := Lib.hid (HL.out.trans (show e + runLen (fun c => baseB 10 c.toNat) (s.data.toList.drop e) = (e + 1) + runLen (fun c => baseB 10 c.toNat) (s.data.toList.drop (e + 1)) by rw [hst]; omega))
          have hv1 := HV.out
          rw [htk] at hv1
          have HR2 := Lib.hid (show valFrom 10 0 ((s.data.toList.drop (a)).take (runLen (fun c => baseB 10 c.toNat) (s.data.toList.drop (a)))) = valFrom 10 (v * 10 + d) ((s.data.toList.drop (e + 1)).take (runLen (fun c => baseB 10 c.toNat) (s.data.toList.drop (e + 1)))) by rw [hdd]; exact hv1)
          have C1 := Lib.hid (show ∀ w, Calls Tryd.prog 38 #[.int .u8 s[e].toNat, .int .u64 10] w fun e w' => e = .returned (.int .i64 d) ∧ w = w' from fun w => by rw [hdd]; exact hex_yes s[e] 10 (by omega) hd w)
          clear hd hst htk hdd hv1
          have hd0 : (0 : Int) ≤ (d : Int) := by omega
          by_cases hov : v * 10 + d ≤ 18446744073709551615
          · go_wp2_with (go_at_call 38; (with_reducible refine (C1.out _).mono ?_); rintro e w' ⟨rfl, rfl⟩)
            go_quiet (fail)
            go_wp2_with fail
            go_roundw
            case rel => exact ⟨e + 1, v * 10 + d, by go_num, by omega, by omega, hov, ⟨q + nq, by rw [setCell_drewN]; simp [go_sem]⟩, HR1, HR2⟩
            case measure => simp [intOf]; omega
          · have HN := Lib.hid (numT_big (s.data.toList.drop a) (by
              rw [HT.out, HB.out, HR2.out]
              exact Nat.le_trans (by omega) (valFrom_ge 10 (by omega) _ _)))
            go_wp2_with (go_at_call 38; (with_reducible refine (C1.out _).mono ?_); rintro e w' ⟨rfl, rfl⟩)
            go_quiet (fail)
            go_wp2_with fail
            refine bodyPost_ret (v := rTokV rtok0) ?_ rfl ⟨by rw [HN.out]; rfl, ?_⟩
            · simp [results, Tryd.results24, go_sem, rTokV, rtok0]; rfl
            · ((repeat (first | (with_reducible exact Below.refl _ _) | (with_reducible apply Below.setCell) | (with_reducible apply below_drewN) | (with_reducible apply Below.alloc))) <;> first | omega | (simp; done) | (simp; omega))
        | false =>
          have hl2 : e < s.data.toList.length := by rw [← HS.out]; exact hlt
          have hst := run_step (fun c => baseB 10 c.toNat) s.data.toList e hl2
          rw [if_neg (by rw [show baseB 10 (s.data.toList[e].toNat : Int) = false from hd]; simp)] at hst
          have C1 := Lib.hid (show ∀ w, Calls Tryd.prog 38 #[.int .u8 s[e].toNat, .int .u64 10] w fun e w' => e = .returned (.int .i64 (-1)) ∧ w = w' from fun w => hex_no s[e] 10 (by omega) hd w)
          have hend : a + numEnd (s.data.toList.drop a) = e := by have h1 := HE.out; have h2 := HL.out; rw [hst] at h2; omega
          have hval := HV.out
          rw [hst, List.take_zero, ← HT.out, ← HB.out] at hval
          have HEND := Lib.hid hend
          have HVAL := Lib.hid (show valFrom (numBase (s.data.toList.drop a)) 0 (((s.data.toList.drop a).drop (numFrom (s.data.toList.drop a))).take (numEnd (s.data.toList.drop a) - numFrom (s.data.toList.drop a))) = v from hval)
          clear hd hst hend hval
          by_cases hef : e = a
          · have HN := Lib.hid (numT_empty (s.data.toList.drop a) (by have h1 := HEND.out; have h2 := HF.out; omega))
            have hef2 : ((e : Int) == (a : Int)) = true := by simp; omega
            clear hef HL HV
            go_wp2_with (go_at_call 38; (with_reducible refine (C1.out _).mono ?_); rintro e w' ⟨rfl, rfl⟩)
            refine bodyPost_ret (v := rTokV rtok0) ?_ rfl ⟨by rw [HN.out]; rfl, ?_⟩
            · simp [results, Tryd.results24, go_sem, rTokV, rtok0]; rfl
            · ((repeat (first | (with_reducible exact Below.refl _ _) | (with_reducible apply Below.setCell) | (with_reducible apply below_drewN) | (with_reducible apply Below.alloc))) <;> first | omega | (simp; done) | (simp; omega))
          · try (exfalso; omega)
            all_goals
              have hef2 : ((e : Int) == (a : Int)) = false := by simp; omega
              have HNE := Lib.hid (show e ≠ a + numFrom (s.data.toList.drop a) from by have h2 := HF.out; omega)
              have he281 : e ≤ 1048576 := by omega
              clear hef HL HV
              by_cases huc : (s[e].toNat : Int) = 117
              · have hub : ((s[e].toNat : Int) == 117) = true := by simpa using huc
                have hu := isAt_yes s e 117 (by omega) huc
                clear huc
                by_cases he1 : e + 1 < s.size
                · have he1i : (e : Int) + 1 < (s.size : Int) := by omega
                  by_cases hlc : (s[e + 1].toNat : Int) = 108
                  · have hlb : ((s[e + 1].toNat : Int) == 108) = true := by simpa using hlc
                    have hlo := isAt_yes s (e + 1) 108 (by omega) hlc
                    clear hlc
                    by_cases he2 : e + 1 + 1 < s.size
                    · have he2i : ((e : Int) + 1 + 1) < (s.size : Int) := by omega
                      cases hpt : partB (s[e + 1 + 1].toNat : Int) with
                      | true =>
                        have HPT := Lib.hid hpt
                        have hbad := (badA_at s (e + 1 + 1) (by omega)).trans hpt
                        clear hpt
                        have HN := Lib.hid (numT_abs s.data.toList a e v (e + 1 + 1) true true true HEND.out HNE.out HVAL.out (by omega) hu hlo (by simp) hbad)
                        go_wp2_with (first | (go_at_call 38; (with_reducible refine (C1.out _).mono ?_); rintro e w' ⟨rfl, rfl⟩) | (go_at_call 26; (with_reducible refine (wordy_any _ _).mono ?_); rintro e w' ⟨rfl, rfl⟩; rw [HPT.out]))
                        refine bodyPost_ret (v := rTokV rtok0) ?_ rfl ⟨by rw [HN.out]; rfl, ?_⟩
                        · simp [results, Tryd.results24, go_sem, rTokV, rtok0]; rfl
                        · ((repeat (first | (with_reducible exact Below.refl _ _) | (with_reducible apply Below.setCell) | (with_reducible apply below_drewN) | (with_reducible apply Below.alloc))) <;> first | omega | (simp; done) | (simp; omega))
                      | false =>
                        have HPT := Lib.hid hpt
                        have hbad := (badA_at s (e + 1 + 1) (by omega)).trans hpt
                        clear hpt
                        have HN := Lib.hid (numT_abs s.data.toList a e v (e + 1 + 1) true true false HEND.out HNE.out HVAL.out (by omega) hu hlo (by simp) hbad)
                        go_wp2_with (first | (go_at_call 38; (with_reducible refine (C1.out _).mono ?_); rintro e w' ⟨rfl, rfl⟩) | (go_at_call 26; (with_reducible refine (wordy_any _ _).mono ?_); rintro e w' ⟨rfl, rfl⟩; rw [HPT.out]))
                        refine bodyPost_ret (v := rTokV { kind := 3, text := (s.data.toList.drop a).take (e + 1 + 1 - a), at_ := a, value := v, uns := true, long := true }) ?_ rfl ⟨by rw [HN.out]; rfl, ?_⟩
                        · simp [results, Tryd.results24, go_sem, rTokV, setCell_drewN, B_extract]
                        · ((repeat (first | (with_reducible exact Below.refl _ _) | (with_reducible apply Below.setCell) | (with_reducible apply below_drewN) | (with_reducible apply Below.alloc))) <;> first | omega | (simp; done) | (simp; omega))
                    · have he2i : ¬ ((e : Int) + 1 + 1) < (s.size : Int) := by omega
                      have HN := Lib.hid (numT_abs s.data.toList a e v (e + 1 + 1) true true false HEND.out HNE.out HVAL.out (by omega) hu hlo (by simp) (badA_end s _ (by omega)))
                      go_wp2_with (go_at_call 38; (with_reducible refine (C1.out _).mono ?_); rintro e w' ⟨rfl, rfl⟩)
                      refine bodyPost_ret (v := rTokV { kind := 3, text := (s.data.toList.drop a).take (e + 1 + 1 - a), at_ := a, value := v, uns := true, long := true }) ?_ rfl ⟨by rw [HN.out]; rfl, ?_⟩
                      · simp [results, Tryd.results24, go_sem, rTokV, setCell_drewN, B_extract]
                      · ((repeat (first | (with_reducible exact Below.refl _ _) | (with_reducible apply Below.setCell) | (with_reducible apply below_drewN) | (with_reducible apply Below.alloc))) <;> first | omega | (simp; done) | (simp; omega))
                  · have hlb : ((s[e + 1].toNat : Int) == 108) = false := by simpa using hlc
                    have hlo := isAt_no s (e + 1) 108 (by omega) hlc
                    clear hlc
                    cases hpt : partB (s[e + 1].toNat : Int) with
                    | true =>
                      have HPT := Lib.hid hpt
                      have hbad := (badA_at s (e + 1) (by omega)).trans hpt
                      clear hpt
                      have HN := Lib.hid (numT_abs s.data.toList a e v (e + 1) true false true HEND.out HNE.out HVAL.out (by omega) hu hlo (by simp) hbad)
                      go_wp2_with (first | (go_at_call 38; (with_reducible refine (C1.out _).mono ?_); rintro e w' ⟨rfl, rfl⟩) | (go_at_call 26; (with_reducible refine (wordy_any _ _).mono ?_); rintro e w' ⟨rfl, rfl⟩; rw [HPT.out]))
                      refine bodyPost_ret (v := rTokV rtok0) ?_ rfl ⟨by rw [HN.out]; rfl, ?_⟩
                      · simp [results, Tryd.results24, go_sem, rTokV, rtok0]; rfl
                      · ((repeat (first | (with_reducible exact Below.refl _ _) | (with_reducible apply Below.setCell) | (with_reducible apply below_drewN) | (with_reducible apply Below.alloc))) <;> first | omega | (simp; done) | (simp; omega))
                    | false =>
                      have HPT := Lib.hid hpt
                      have hbad := (badA_at s (e + 1) (by omega)).trans hpt
                      clear hpt
                      have HN := Lib.hid (numT_abs s.data.toList a e v (e + 1) true false false HEND.out HNE.out HVAL.out (by omega) hu hlo (by simp) hbad)
                      go_wp2_with (first | (go_at_call 38; (with_reducible refine (C1.out _).mono ?_); rintro e w' ⟨rfl, rfl⟩) | (go_at_call 26; (with_reducible refine (wordy_any _ _).mono ?_); rintro e w' ⟨rfl, rfl⟩; rw [HPT.out]))
                      refine bodyPost_ret (v := rTokV { kind := 3, text := (s.data.toList.drop a).take (e + 1 - a), at_ := a, value := v, uns := true, long := false }) ?_ rfl ⟨by rw [HN.out]; rfl, ?_⟩
                      · simp [results, Tryd.results24, go_sem, rTokV, setCell_drewN, B_extract]
                      · ((repeat (first | (with_reducible exact Below.refl _ _) | (with_reducible apply Below.setCell) | (with_reducible apply below_drewN) | (with_reducible apply Below.alloc))) <;> first | omega | (simp; done) | (simp; omega))
                · have he1i : ¬ (e : Int) + 1 < (s.size : Int) := by omega
                  have HN := Lib.hid (numT_abs s.data.toList a e v (e + 1) true false false HEND.out HNE.out HVAL.out (by omega) hu (isAt_end s (e + 1) _ (by omega)) (by simp) (badA_end s _ (by omega)))
                  go_wp2_with (go_at_call 38; (with_reducible refine (C1.out _).mono ?_); rintro e w' ⟨rfl, rfl⟩)
                  refine bodyPost_ret (v := rTokV { kind := 3, text := (s.data.toList.drop a).take (e + 1 - a), at_ := a, value := v, uns := true, long := false }) ?_ rfl ⟨by rw [HN.out]; rfl, ?_⟩
                  · simp [results, Tryd.results24, go_sem, rTokV, setCell_drewN, B_extract]
                  · ((repeat (first | (with_reducible exact Below.refl _ _) | (with_reducible apply Below.setCell) | (with_reducible apply below_drewN) | (with_reducible apply Below.alloc))) <;> first | omega | (simp; done) | (simp; omega))
              · have hub : ((s[e].toNat : Int) == 117) = false := by simpa using huc
                have hu := isAt_no s e 117 (by omega) huc
                clear huc
                by_cases hlc : (s[e].toNat : Int) = 108
                · have hlb : ((s[e].toNat : Int) == 108) = true := by simpa using hlc
                  have hlo := isAt_yes s (e) 108 (by omega) hlc
                  clear hlc
                  by_cases he2 : e + 1 < s.size
                  · have he2i : ((e : Int) + 1) < (s.size : Int) := by omega
                    cases hpt : partB (s[e + 1].toNat : Int) with
                    | true =>
                      have HPT := Lib.hid hpt
                      have hbad := (badA_at s (e + 1) (by omega)).trans hpt
                      clear hpt
                      have HN := Lib.hid (numT_abs s.data.toList a e v (e + 1) false true true HEND.out HNE.out HVAL.out (by omega) hu hlo (by simp) hbad)
                      go_wp2_with (first | (go_at_call 38; (with_reducible refine (C1.out _).mono ?_); rintro e w' ⟨rfl, rfl⟩) | (go_at_call 26; (with_reducible refine (wordy_any _ _).mono ?_); rintro e w' ⟨rfl, rfl⟩; rw [HPT.out]))
                      refine bodyPost_ret (v := rTokV rtok0) ?_ rfl ⟨by rw [HN.out]; rfl, ?_⟩
                      · simp [results, Tryd.results24, go_sem, rTokV, rtok0]; rfl
                      · ((repeat (first | (with_reducible exact Below.refl _ _) | (with_reducible apply Below.setCell) | (with_reducible apply below_drewN) | (with_reducible apply Below.alloc))) <;> first | omega | (simp; done) | (simp; omega))
                    | false =>
                      have HPT := Lib.hid hpt
                      have hbad := (badA_at s (e + 1) (by omega)).trans hpt
                      clear hpt
                      have HN := Lib.hid (numT_abs s.data.toList a e v (e + 1) false true false HEND.out HNE.out HVAL.out (by omega) hu hlo (by simp) hbad)
                      go_wp2_with (first | (go_at_call 38; (with_reducible refine (C1.out _).mono ?_); rintro e w' ⟨rfl, rfl⟩) | (go_at_call 26; (with_reducible refine (wordy_any _ _).mono ?_); rintro e w' ⟨rfl, rfl⟩; rw [HPT.out]))
                      refine bodyPost_ret (v := rTokV { kind := 3, text := (s.data.toList.drop a).take (e + 1 - a), at_ := a, value := v, uns := false, long := true }) ?_ rfl ⟨by rw [HN.out]; rfl, ?_⟩
                      · simp [results, Tryd.results24, go_sem, rTokV, setCell_drewN, B_extract]
                      · ((repeat (first | (with_reducible exact Below.refl _ _) | (with_reducible apply Below.setCell) | (with_reducible apply below_drewN) | (with_reducible apply Below.alloc))) <;> first | omega | (simp; done) | (simp; omega))
                  · have he2i : ¬ ((e : Int) + 1) < (s.size : Int) := by omega
                    have HN := Lib.hid (numT_abs s.data.toList a e v (e + 1) false true false HEND.out HNE.out HVAL.out (by omega) hu hlo (by simp) (badA_end s _ (by omega)))
                    go_wp2_with (go_at_call 38; (with_reducible refine (C1.out _).mono ?_); rintro e w' ⟨rfl, rfl⟩)
                    refine bodyPost_ret (v := rTokV { kind := 3, text := (s.data.toList.drop a).take (e + 1 - a), at_ := a, value := v, uns := false, long := true }) ?_ rfl ⟨by rw [HN.out]; rfl, ?_⟩
                    · simp [results, Tryd.results24, go_sem, rTokV, setCell_drewN, B_extract]
                    · ((repeat (first | (with_reducible exact Below.refl _ _) | (with_reducible apply Below.setCell) | (with_reducible apply below_drewN) | (with_reducible apply Below.alloc))) <;> first | omega | (simp; done) | (simp; omega))
                · have hlb : ((s[e].toNat : Int) == 108) = false := by simpa using hlc
                  have hlo := isAt_no s (e) 108 (by omega) hlc
                  clear hlc
                  cases hpt : partB (s[e].toNat : Int) with
                  | true =>
                    have HPT := Lib.hid hpt
                    have hbad := (badA_at s (e) (by omega)).trans hpt
                    clear hpt
                    have HN := Lib.hid (numT_abs s.data.toList a e v (e) false false true HEND.out HNE.out HVAL.out (by omega) hu hlo (by simp) hbad)
                    go_wp2_with (first | (go_at_call 38; (with_reducible refine (C1.out _).mono ?_); rintro e w' ⟨rfl, rfl⟩) | (go_at_call 26; (with_reducible refine (wordy_any _ _).mono ?_); rintro e w' ⟨rfl, rfl⟩; rw [HPT.out]))
                    refine bodyPost_ret (v := rTokV rtok0) ?_ rfl ⟨by rw [HN.out]; rfl, ?_⟩
                    · simp [results, Tryd.results24, go_sem, rTokV, rtok0]; rfl
                    · ((repeat (first | (with_reducible exact Below.refl _ _) | (with_reducible apply Below.setCell) | (with_reducible apply below_drewN) | (with_reducible apply Below.alloc))) <;> first | omega | (simp; done) | (simp; omega))
                  | false =>
                    have HPT := Lib.hid hpt
                    have hbad := (badA_at s (e) (by omega)).trans hpt
                    clear hpt
                    have HN := Lib.hid (numT_abs s.data.toList a e v (e) false false false HEND.out HNE.out HVAL.out (by omega) hu hlo (by simp) hbad)
                    go_wp2_with (first | (go_at_call 38; (with_reducible refine (C1.out _).mono ?_); rintro e w' ⟨rfl, rfl⟩) | (go_at_call 26; (with_reducible refine (wordy_any _ _).mono ?_); rintro e w' ⟨rfl, rfl⟩; rw [HPT.out]))
                    refine bodyPost_ret (v := rTokV { kind := 3, text := (s.data.toList.drop a).take (e - a), at_ := a, value := v, uns := false, long := false }) ?_ rfl ⟨by rw [HN.out]; rfl, ?_⟩
                    · simp [results, Tryd.results24, go_sem, rTokV, setCell_drewN, B_extract]
                    · ((repeat (first | (with_reducible exact Below.refl _ _) | (with_reducible apply Below.setCell) | (with_reducible apply below_drewN) | (with_reducible apply Below.alloc))) <;> first | omega | (simp; done) | (simp; omega))
      · have hst : runLen (fun c => baseB 10 c.toNat) (s.data.toList.drop e) = 0 := run_end _ _ _ (by rw [← HS.out]; omega)
        have hend : a + numEnd (s.data.toList.drop a) = e := by have h1 := HE.out; have h2 := HL.out; rw [hst] at h2; omega
        have hval := HV.out
        rw [hst, List.take_zero, ← HT.out, ← HB.out] at hval
        have HEND := Lib.hid hend
        have HVAL := Lib.hid (show valFrom (numBase (s.data.toList.drop a)) 0 (((s.data.toList.drop a).drop (numFrom (s.data.toList.drop a))).take (numEnd (s.data.toList.drop a) - numFrom (s.data.toList.drop a))) = v from hval)
        clear hst hend hval
        by_cases hef : e = a
        · have HN := Lib.hid (numT_empty (s.data.toList.drop a) (by have h1 := HEND.out; have h2 := HF.out; omega))
          have hef2 : ((e : Int) == (a : Int)) = true := by simp; omega
          clear hef HL HV
          go_wp2_with fail
          refine bodyPost_ret (v := rTokV rtok0) ?_ rfl ⟨by rw [HN.out]; rfl, ?_⟩
          · simp [results, Tryd.results24, go_sem, rTokV, rtok0]; rfl
          · ((repeat (first | (with_reducible exact Below.refl _ _) | (with_reducible apply Below.setCell) | (with_reducible apply below_drewN) | (with_reducible apply Below.alloc))) <;> first | omega | (simp; done) | (simp; omega))
        · have hef2 : ((e : Int) == (a : Int)) = false := by simp; omega
          have HNE := Lib.hid (show e ≠ a + numFrom (s.data.toList.drop a) from by have h2 := HF.out; omega)
          clear hef HL HV
          have HN := Lib.hid (numT_abs s.data.toList a e v (e) false false false HEND.out HNE.out HVAL.out (by omega) (isAt_end s e _ (by omega)) (isAt_end s e _ (by omega)) (by simp) (badA_end s _ (by omega)))
          go_wp2_with fail
          refine bodyPost_ret (v := rTokV { kind := 3, text := (s.data.toList.drop a).take (e - a), at_ := a, value := v, uns := false, long := false }) ?_ rfl ⟨by rw [HN.out]; rfl, ?_⟩
          · simp [results, Tryd.results24, go_sem, rTokV, setCell_drewN, B_extract]
          · ((repeat (first | (with_reducible exact Below.refl _ _) | (with_reducible apply Below.setCell) | (with_reducible apply below_drewN) | (with_reducible apply Below.alloc))) <;> first | omega | (simp; done) | (simp; omega))

theorem num16_facts (l : List UInt8) (a : Nat) (hp : Lib.hasPrefix (l.drop a) [48, 120] = true) :
    a + numFrom (l.drop a) = a + 2 ∧ numBase (l.drop a) = 16 ∧ a + numEnd (l.drop a) = a + 2 + runLen (fun c => baseB 16 c.toNat) (l.drop (a + 2)) ∧ ((l.drop a).drop (numFrom (l.drop a))).take (numEnd (l.drop a) - numFrom (l.drop a)) = (l.drop (a + 2)).take (runLen (fun c => baseB 16 c.toNat) (l.drop (a + 2))) := by
  have h1 : numFrom (l.drop a) = 2 := by unfold numFrom; rw [hp]; rfl
  have h2 : numBase (l.drop a) = 16 := by unfold numBase; rw [hp]; rfl
  have h3 : numEnd (l.drop a) = 2 + runLen (fun c => baseB 16 c.toNat) (l.drop (a + 2)) := by
    unfold numEnd; rw [h1, h2, List.drop_drop]; rfl
  refine ⟨by rw [h1], h2, by omega, ?_⟩
  rw [h3, h1, List.drop_drop]
  congr 1
  omega

set_option maxRecDepth 100000 in
set_option maxHeartbeats 4000000 in
theorem rnumber16 (s : ByteArray) (hs : s.size ≤ 1048576) (a : Nat) (_ : a < s.size) (hp : Lib.hasPrefix (s.data.toList.drop a) [48, 120] = true) (w : World) :
    Calls Tryd.prog 24 #[.string s, .int .i64 a] w fun e w' => e = .returned (rTokV (rAt a (numberT (s.data.toList.drop a)))) ∧ Below w.heap.size w w' := by
  have HS := Lib.hid (Lib.size_eq s)
  obtain ⟨hF, hB, hE, hT⟩ := num16_facts s.data.toList a hp
  have HF := Lib.hid hF
  have HB := Lib.hid hB
  have HE := Lib.hid hE
  have HT := Lib.hid hT
  have HP := Lib.hid hp
  clear hF hB hE hT
  have hk1 : a + 1 < s.size := pre_room s a _ _ HP.out
  have hx1 := (ext2 s a 48 120 hk1).trans HP.out
  have hi1 : (a : Int) + 1 < (s.size : Int) := by omega
  clear hp
  go_enter Tryd.func24, Tryd.ntmps24
  go_wp2_with fail
  all_goals
    go_loopw [7] (fun v7 wr => ∃ e v : Nat, v7 = .int .i64 e ∧ a + 2 ≤ e ∧ e ≤ s.size ∧ v ≤ 18446744073709551615 ∧ (∃ q, wr = ((w.alloc (.cells #[.int .i64 0, .int .i64 0, .string ⟨#[]⟩, .int .u64 0, .bool false, .bool false] 49)).alloc (.cells #[.int .i64 3, .int .i64 a, .string ⟨#[]⟩, .int .u64 v, .bool false, .bool false] 49)).drewN q) ∧ Hid (a + 2 + runLen (fun c => baseB 16 c.toNat) (s.data.toList.drop (a + 2)) = e + runLen (fun c => baseB 16 c.toNat) (s.data.toList.drop e)) ∧ Hid (valFrom 16 0 ((s.data.toList.drop (a + 2)).take (runLen (fun c => baseB 16 c.toNat) (s.data.toList.drop (a + 2)))) = valFrom 16 v ((s.data.toList.drop e).take (runLen (fun c => baseB 16 c.toNat) (s.data.toList.drop e))))) (fun v7 _ => s.size - (intOf v7).toNat)
    case atStart => exact ⟨a + 2, 0, by go_num, Nat.le_refl _, by omega, by omega, ⟨0, rfl⟩, Lib.hid rfl, Lib.hid rfl⟩
    case round =>
      obtain ⟨e, v, rfl, hfe, hes, hv, ⟨q, rfl⟩, HL, HV⟩ := hrel
      by_cases hlt : e < s.size
      · cases hd : baseB 16 (s[e].toNat : Int) with
        | true =>
          have hl2 : e < s.data.toList.length := by rw [← HS.out]; exact hlt
          have hst := run_step (fun c => baseB 16 c.toNat) s.data.toList e hl2
          rw [if_pos (show baseB 16 (s.data.toList[e].toNat : Int) = true from hd)] at hst
          have htk := run_take (fun c => baseB 16 c.toNat) s.data.toList e hl2 hd
          obtain ⟨d, hdd⟩ : ∃ d, d = hexV s[e] := ⟨_, rfl⟩
          have hd15 : d ≤ 15 := by rw [hdd]; exact hexV_le s[e] 16 (by omega) hd
          have HR1 := Lib.hid (HL.out.trans (show e + runLen (fun c => baseB 16 c.toNat) (s.data.toList.drop e) = (e + 1) + runLen (fun c => baseB 16 c.toNat) (s.data.toList.drop (e + 1)) by rw [hst]; omega))
          have hv1 := HV.out
          rw [htk] at hv1
          have HR2 := Lib.hid (show valFrom 16 0 ((s.data.toList.drop (a + 2)).take (runLen (fun c => baseB 16 c.toNat) (s.data.toList.drop (a + 2)))) = valFrom 16 (v * 16 + d) ((s.data.toList.drop (e + 1)).take (runLen (fun c => baseB 16 c.toNat) (s.data.toList.drop (e + 1)))) by rw [hdd]; exact hv1)
          have C1 := Lib.hid (show ∀ w, Calls Tryd.prog 38 #[.int .u8 s[e].toNat, .int .u64 16] w fun e w' => e = .returned (.int .i64 d) ∧ w = w' from fun w => by rw [hdd]; exact hex_yes s[e] 16 (by omega) hd w)
          clear hd hst htk hdd hv1
          have hd0 : (0 : Int) ≤ (d : Int) := by omega
          by_cases hov : v * 16 + d ≤ 18446744073709551615
          · go_wp2_with (go_at_call 38; (with_reducible refine (C1.out _).mono ?_); rintro e w' ⟨rfl, rfl⟩)
            go_quiet (fail)
            go_wp2_with fail
            go_roundw
            case rel => exact ⟨e + 1, v * 16 + d, by go_num, by omega, by omega, hov, ⟨q + nq, by rw [setCell_drewN]; simp [go_sem]⟩, HR1, HR2⟩
            case measure => simp [intOf]; omega
          · have HN := Lib.hid (numT_big (s.data.toList.drop a) (by
              rw [HT.out, HB.out, HR2.out]
              exact Nat.le_trans (by omega) (valFrom_ge 16 (by omega) _ _)))
            go_wp2_with (go_at_call 38; (with_reducible refine (C1.out _).mono ?_); rintro e w' ⟨rfl, rfl⟩)
            go_quiet (fail)
            go_wp2_with fail
            refine bodyPost_ret (v := rTokV rtok0) ?_ rfl ⟨by rw [HN.out]; rfl, ?_⟩
            · simp [results, Tryd.results24, go_sem, rTokV, rtok0]; rfl
            · ((repeat (first | (with_reducible exact Below.refl _ _) | (with_reducible apply Below.setCell) | (with_reducible apply below_drewN) | (with_reducible apply Below.alloc))) <;> first | omega | (simp; done) | (simp; omega))
        | false =>
          have hl2 : e < s.data.toList.length := by rw [← HS.out]; exact hlt
          have hst := run_step (fun c => baseB 16 c.toNat) s.data.toList e hl2
          rw [if_neg (by rw [show baseB 16 (s.data.toList[e].toNat : Int) = false from hd]; simp)] at hst
          have C1 := Lib.hid (show ∀ w, Calls Tryd.prog 38 #[.int .u8 s[e].toNat, .int .u64 16] w fun e w' => e = .returned (.int .i64 (-1)) ∧ w = w' from fun w => hex_no s[e] 16 (by omega) hd w)
          have hend : a + numEnd (s.data.toList.drop a) = e := by have h1 := HE.out; have h2 := HL.out; rw [hst] at h2; omega
          have hval := HV.out
          rw [hst, List.take_zero, ← HT.out, ← HB.out] at hval
          have HEND := Lib.hid hend
          have HVAL := Lib.hid (show valFrom (numBase (s.data.toList.drop a)) 0 (((s.data.toList.drop a).drop (numFrom (s.data.toList.drop a))).take (numEnd (s.data.toList.drop a) - numFrom (s.data.toList.drop a))) = v from hval)
          clear hd hst hend hval
          by_cases hef : e = a + 2
          · have HN := Lib.hid (numT_empty (s.data.toList.drop a) (by have h1 := HEND.out; have h2 := HF.out; omega))
            have hef2 : ((e : Int) == (a : Int) + 2) = true := by simp; omega
            clear hef HL HV
            go_wp2_with (go_at_call 38; (with_reducible refine (C1.out _).mono ?_); rintro e w' ⟨rfl, rfl⟩)
            refine bodyPost_ret (v := rTokV rtok0) ?_ rfl ⟨by rw [HN.out]; rfl, ?_⟩
            · simp [results, Tryd.results24, go_sem, rTokV, rtok0]; rfl
            · ((repeat (first | (with_reducible exact Below.refl _ _) | (with_reducible apply Below.setCell) | (with_reducible apply below_drewN) | (with_reducible apply Below.alloc))) <;> first | omega | (simp; done) | (simp; omega))
          · try (exfalso; omega)
            all_goals
              have hef2 : ((e : Int) == (a : Int) + 2) = false := by simp; omega
              have HNE := Lib.hid (show e ≠ a + numFrom (s.data.toList.drop a) from by have h2 := HF.out; omega)
              have he281 : e ≤ 1048576 := by omega
              clear hef HL HV
              by_cases huc : (s[e].toNat : Int) = 117
              · have hub : ((s[e].toNat : Int) == 117) = true := by simpa using huc
                have hu := isAt_yes s e 117 (by omega) huc
                clear huc
                by_cases he1 : e + 1 < s.size
                · have he1i : (e : Int) + 1 < (s.size : Int) := by omega
                  by_cases hlc : (s[e + 1].toNat : Int) = 108
                  · have hlb : ((s[e + 1].toNat : Int) == 108) = true := by simpa using hlc
                    have hlo := isAt_yes s (e + 1) 108 (by omega) hlc
                    clear hlc
                    by_cases he2 : e + 1 + 1 < s.size
                    · have he2i : ((e : Int) + 1 + 1) < (s.size : Int) := by omega
                      cases hpt : partB (s[e + 1 + 1].toNat : Int) with
                      | true =>
                        have HPT := Lib.hid hpt
                        have hbad := (badA_at s (e + 1 + 1) (by omega)).trans hpt
                        clear hpt
                        have HN := Lib.hid (numT_abs s.data.toList a e v (e + 1 + 1) true true true HEND.out HNE.out HVAL.out (by omega) hu hlo (by simp) hbad)
                        go_wp2_with (first | (go_at_call 38; (with_reducible refine (C1.out _).mono ?_); rintro e w' ⟨rfl, rfl⟩) | (go_at_call 26; (with_reducible refine (wordy_any _ _).mono ?_); rintro e w' ⟨rfl, rfl⟩; rw [HPT.out]))
                        refine bodyPost_ret (v := rTokV rtok0) ?_ rfl ⟨by rw [HN.out]; rfl, ?_⟩
                        · simp [results, Tryd.results24, go_sem, rTokV, rtok0]; rfl
                        · ((repeat (first | (with_reducible exact Below.refl _ _) | (with_reducible apply Below.setCell) | (with_reducible apply below_drewN) | (with_reducible apply Below.alloc))) <;> first | omega | (simp; done) | (simp; omega))
                      | false =>
                        have HPT := Lib.hid hpt
                        have hbad := (badA_at s (e + 1 + 1) (by omega)).trans hpt
                        clear hpt
                        have HN := Lib.hid (numT_abs s.data.toList a e v (e + 1 + 1) true true false HEND.out HNE.out HVAL.out (by omega) hu hlo (by simp) hbad)
                        go_wp2_with (first | (go_at_call 38; (with_reducible refine (C1.out _).mono ?_); rintro e w' ⟨rfl, rfl⟩) | (go_at_call 26; (with_reducible refine (wordy_any _ _).mono ?_); rintro e w' ⟨rfl, rfl⟩; rw [HPT.out]))
                        refine bodyPost_ret (v := rTokV { kind := 3, text := (s.data.toList.drop a).take (e + 1 + 1 - a), at_ := a, value := v, uns := true, long := true }) ?_ rfl ⟨by rw [HN.out]; rfl, ?_⟩
                        · simp [results, Tryd.results24, go_sem, rTokV, setCell_drewN, B_extract]
                        · ((repeat (first | (with_reducible exact Below.refl _ _) | (with_reducible apply Below.setCell) | (with_reducible apply below_drewN) | (with_reducible apply Below.alloc))) <;> first | omega | (simp; done) | (simp; omega))
                    · have he2i : ¬ ((e : Int) + 1 + 1) < (s.size : Int) := by omega
                      have HN := Lib.hid (numT_abs s.data.toList a e v (e + 1 + 1) true true false HEND.out HNE.out HVAL.out (by omega) hu hlo (by simp) (badA_end s _ (by omega)))
                      go_wp2_with (go_at_call 38; (with_reducible refine (C1.out _).mono ?_); rintro e w' ⟨rfl, rfl⟩)
                      refine bodyPost_ret (v := rTokV { kind := 3, text := (s.data.toList.drop a).take (e + 1 + 1 - a), at_ := a, value := v, uns := true, long := true }) ?_ rfl ⟨by rw [HN.out]; rfl, ?_⟩
                      · simp [results, Tryd.results24, go_sem, rTokV, setCell_drewN, B_extract]
                      · ((repeat (first | (with_reducible exact Below.refl _ _) | (with_reducible apply Below.setCell) | (with_reducible apply below_drewN) | (with_reducible apply Below.alloc))) <;> first | omega | (simp; done) | (simp; omega))
                  · have hlb : ((s[e + 1].toNat : Int) == 108) = false := by simpa using hlc
                    have hlo := isAt_no s (e + 1) 108 (by omega) hlc
                    clear hlc
                    cases hpt : partB (s[e + 1].toNat : Int) with
                    | true =>
                      have HPT := Lib.hid hpt
                      have hbad := (badA_at s (e + 1) (by omega)).trans hpt
                      clear hpt
                      have HN := Lib.hid (numT_abs s.data.toList a e v (e + 1) true false true HEND.out HNE.out HVAL.out (by omega) hu hlo (by simp) hbad)
                      go_wp2_with (first | (go_at_call 38; (with_reducible refine (C1.out _).mono ?_); rintro e w' ⟨rfl, rfl⟩) | (go_at_call 26; (with_reducible refine (wordy_any _ _).mono ?_); rintro e w' ⟨rfl, rfl⟩; rw [HPT.out]))
                      refine bodyPost_ret (v := rTokV rtok0) ?_ rfl ⟨by rw [HN.out]; rfl, ?_⟩
                      · simp [results, Tryd.results24, go_sem, rTokV, rtok0]; rfl
                      · ((repeat (first | (with_reducible exact Below.refl _ _) | (with_reducible apply Below.setCell) | (with_reducible apply below_drewN) | (with_reducible apply Below.alloc))) <;> first | omega | (simp; done) | (simp; omega))
                    | false =>
                      have HPT := Lib.hid hpt
                      have hbad := (badA_at s (e + 1) (by omega)).trans hpt
                      clear hpt
                      have HN := Lib.hid (numT_abs s.data.toList a e v (e + 1) true false false HEND.out HNE.out HVAL.out (by omega) hu hlo (by simp) hbad)
                      go_wp2_with (first | (go_at_call 38; (with_reducible refine (C1.out _).mono ?_); rintro e w' ⟨rfl, rfl⟩) | (go_at_call 26; (with_reducible refine (wordy_any _ _).mono ?_); rintro e w' ⟨rfl, rfl⟩; rw [HPT.out]))
                      refine bodyPost_ret (v := rTokV { kind := 3, text := (s.data.toList.drop a).take (e + 1 - a), at_ := a, value := v, uns := true, long := false }) ?_ rfl ⟨by rw [HN.out]; rfl, ?_⟩
                      · simp [results, Tryd.results24, go_sem, rTokV, setCell_drewN, B_extract]
                      · ((repeat (first | (with_reducible exact Below.refl _ _) | (with_reducible apply Below.setCell) | (with_reducible apply below_drewN) | (with_reducible apply Below.alloc))) <;> first | omega | (simp; done) | (simp; omega))
                · have he1i : ¬ (e : Int) + 1 < (s.size : Int) := by omega
                  have HN := Lib.hid (numT_abs s.data.toList a e v (e + 1) true false false HEND.out HNE.out HVAL.out (by omega) hu (isAt_end s (e + 1) _ (by omega)) (by simp) (badA_end s _ (by omega)))
                  go_wp2_with (go_at_call 38; (with_reducible refine (C1.out _).mono ?_); rintro e w' ⟨rfl, rfl⟩)
                  refine bodyPost_ret (v := rTokV { kind := 3, text := (s.data.toList.drop a).take (e + 1 - a), at_ := a, value := v, uns := true, long := false }) ?_ rfl ⟨by rw [HN.out]; rfl, ?_⟩
                  · simp [results, Tryd.results24, go_sem, rTokV, setCell_drewN, B_extract]
                  · ((repeat (first | (with_reducible exact Below.refl _ _) | (with_reducible apply Below.setCell) | (with_reducible apply below_drewN) | (with_reducible apply Below.alloc))) <;> first | omega | (simp; done) | (simp; omega))
              · have hub : ((s[e].toNat : Int) == 117) = false := by simpa using huc
                have hu := isAt_no s e 117 (by omega) huc
                clear huc
                by_cases hlc : (s[e].toNat : Int) = 108
                · have hlb : ((s[e].toNat : Int) == 108) = true := by simpa using hlc
                  have hlo := isAt_yes s (e) 108 (by omega) hlc
                  clear hlc
                  by_cases he2 : e + 1 < s.size
                  · have he2i : ((e : Int) + 1) < (s.size : Int) := by omega
                    cases hpt : partB (s[e + 1].toNat : Int) with
                    | true =>
                      have HPT := Lib.hid hpt
                      have hbad := (badA_at s (e + 1) (by omega)).trans hpt
                      clear hpt
                      have HN := Lib.hid (numT_abs s.data.toList a e v (e + 1) false true true HEND.out HNE.out HVAL.out (by omega) hu hlo (by simp) hbad)
                      go_wp2_with (first | (go_at_call 38; (with_reducible refine (C1.out _).mono ?_); rintro e w' ⟨rfl, rfl⟩) | (go_at_call 26; (with_reducible refine (wordy_any _ _).mono ?_); rintro e w' ⟨rfl, rfl⟩; rw [HPT.out]))
                      refine bodyPost_ret (v := rTokV rtok0) ?_ rfl ⟨by rw [HN.out]; rfl, ?_⟩
                      · simp [results, Tryd.results24, go_sem, rTokV, rtok0]; rfl
                      · ((repeat (first | (with_reducible exact Below.refl _ _) | (with_reducible apply Below.setCell) | (with_reducible apply below_drewN) | (with_reducible apply Below.alloc))) <;> first | omega | (simp; done) | (simp; omega))
                    | false =>
                      have HPT := Lib.hid hpt
                      have hbad := (badA_at s (e + 1) (by omega)).trans hpt
                      clear hpt
                      have HN := Lib.hid (numT_abs s.data.toList a e v (e + 1) false true false HEND.out HNE.out HVAL.out (by omega) hu hlo (by simp) hbad)
                      go_wp2_with (first | (go_at_call 38; (with_reducible refine (C1.out _).mono ?_); rintro e w' ⟨rfl, rfl⟩) | (go_at_call 26; (with_reducible refine (wordy_any _ _).mono ?_); rintro e w' ⟨rfl, rfl⟩; rw [HPT.out]))
                      refine bodyPost_ret (v := rTokV { kind := 3, text := (s.data.toList.drop a).take (e + 1 - a), at_ := a, value := v, uns := false, long := true }) ?_ rfl ⟨by rw [HN.out]; rfl, ?_⟩
                      · simp [results, Tryd.results24, go_sem, rTokV, setCell_drewN, B_extract]
                      · ((repeat (first | (with_reducible exact Below.refl _ _) | (with_reducible apply Below.setCell) | (with_reducible apply below_drewN) | (with_reducible apply Below.alloc))) <;> first | omega | (simp; done) | (simp; omega))
                  · have he2i : ¬ ((e : Int) + 1) < (s.size : Int) := by omega
                    have HN := Lib.hid (numT_abs s.data.toList a e v (e + 1) false true false HEND.out HNE.out HVAL.out (by omega) hu hlo (by simp) (badA_end s _ (by omega)))
                    go_wp2_with (go_at_call 38; (with_reducible refine (C1.out _).mono ?_); rintro e w' ⟨rfl, rfl⟩)
                    refine bodyPost_ret (v := rTokV { kind := 3, text := (s.data.toList.drop a).take (e + 1 - a), at_ := a, value := v, uns := false, long := true }) ?_ rfl ⟨by rw [HN.out]; rfl, ?_⟩
                    · simp [results, Tryd.results24, go_sem, rTokV, setCell_drewN, B_extract]
                    · ((repeat (first | (with_reducible exact Below.refl _ _) | (with_reducible apply Below.setCell) | (with_reducible apply below_drewN) | (with_reducible apply Below.alloc))) <;> first | omega | (simp; done) | (simp; omega))
                · have hlb : ((s[e].toNat : Int) == 108) = false := by simpa using hlc
                  have hlo := isAt_no s (e) 108 (by omega) hlc
                  clear hlc
                  cases hpt : partB (s[e].toNat : Int) with
                  | true =>
                    have HPT := Lib.hid hpt
                    have hbad := (badA_at s (e) (by omega)).trans hpt
                    clear hpt
                    have HN := Lib.hid (numT_abs s.data.toList a e v (e) false false true HEND.out HNE.out HVAL.out (by omega) hu hlo (by simp) hbad)
                    go_wp2_with (first | (go_at_call 38; (with_reducible refine (C1.out _).mono ?_); rintro e w' ⟨rfl, rfl⟩) | (go_at_call 26; (with_reducible refine (wordy_any _ _).mono ?_); rintro e w' ⟨rfl, rfl⟩; rw [HPT.out]))
                    refine bodyPost_ret (v := rTokV rtok0) ?_ rfl ⟨by rw [HN.out]; rfl, ?_⟩
                    · simp [results, Tryd.results24, go_sem, rTokV, rtok0]; rfl
                    · ((repeat (first | (with_reducible exact Below.refl _ _) | (with_reducible apply Below.setCell) | (with_reducible apply below_drewN) | (with_reducible apply Below.alloc))) <;> first | omega | (simp; done) | (simp; omega))
                  | false =>
                    have HPT := Lib.hid hpt
                    have hbad := (badA_at s (e) (by omega)).trans hpt
                    clear hpt
                    have HN := Lib.hid (numT_abs s.data.toList a e v (e) false false false HEND.out HNE.out HVAL.out (by omega) hu hlo (by simp) hbad)
                    go_wp2_with (first | (go_at_call 38; (with_reducible refine (C1.out _).mono ?_); rintro e w' ⟨rfl, rfl⟩) | (go_at_call 26; (with_reducible refine (wordy_any _ _).mono ?_); rintro e w' ⟨rfl, rfl⟩; rw [HPT.out]))
                    refine bodyPost_ret (v := rTokV { kind := 3, text := (s.data.toList.drop a).take (e - a), at_ := a, value := v, uns := false, long := false }) ?_ rfl ⟨by rw [HN.out]; rfl, ?_⟩
                    · simp [results, Tryd.results24, go_sem, rTokV, setCell_drewN, B_extract]
                    · ((repeat (first | (with_reducible exact Below.refl _ _) | (with_reducible apply Below.setCell) | (with_reducible apply below_drewN) | (with_reducible apply Below.alloc))) <;> first | omega | (simp; done) | (simp; omega))
      · have hst : runLen (fun c => baseB 16 c.toNat) (s.data.toList.drop e) = 0 := run_end _ _ _ (by rw [← HS.out]; omega)
        have hend : a + numEnd (s.data.toList.drop a) = e := by have h1 := HE.out; have h2 := HL.out; rw [hst] at h2; omega
        have hval := HV.out
        rw [hst, List.take_zero, ← HT.out, ← HB.out] at hval
        have HEND := Lib.hid hend
        have HVAL := Lib.hid (show valFrom (numBase (s.data.toList.drop a)) 0 (((s.data.toList.drop a).drop (numFrom (s.data.toList.drop a))).take (numEnd (s.data.toList.drop a) - numFrom (s.data.toList.drop a))) = v from hval)
        clear hst hend hval
        by_cases hef : e = a + 2
        · have HN := Lib.hid (numT_empty (s.data.toList.drop a) (by have h1 := HEND.out; have h2 := HF.out; omega))
          have hef2 : ((e : Int) == (a : Int) + 2) = true := by simp; omega
          clear hef HL HV
          go_wp2_with fail
          refine bodyPost_ret (v := rTokV rtok0) ?_ rfl ⟨by rw [HN.out]; rfl, ?_⟩
          · simp [results, Tryd.results24, go_sem, rTokV, rtok0]; rfl
          · ((repeat (first | (with_reducible exact Below.refl _ _) | (with_reducible apply Below.setCell) | (with_reducible apply below_drewN) | (with_reducible apply Below.alloc))) <;> first | omega | (simp; done) | (simp; omega))
        · have hef2 : ((e : Int) == (a : Int) + 2) = false := by simp; omega
          have HNE := Lib.hid (show e ≠ a + numFrom (s.data.toList.drop a) from by have h2 := HF.out; omega)
          clear hef HL HV
          have HN := Lib.hid (numT_abs s.data.toList a e v (e) false false false HEND.out HNE.out HVAL.out (by omega) (isAt_end s e _ (by omega)) (isAt_end s e _ (by omega)) (by simp) (badA_end s _ (by omega)))
          go_wp2_with fail
          refine bodyPost_ret (v := rTokV { kind := 3, text := (s.data.toList.drop a).take (e - a), at_ := a, value := v, uns := false, long := false }) ?_ rfl ⟨by rw [HN.out]; rfl, ?_⟩
          · simp [results, Tryd.results24, go_sem, rTokV, setCell_drewN, B_extract]
          · ((repeat (first | (with_reducible exact Below.refl _ _) | (with_reducible apply Below.setCell) | (with_reducible apply below_drewN) | (with_reducible apply Below.alloc))) <;> first | omega | (simp; done) | (simp; omega))
end Go.Proofs.YtamimaoaafapbaaDoor
