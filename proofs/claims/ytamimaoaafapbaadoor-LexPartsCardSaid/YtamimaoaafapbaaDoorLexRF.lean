import Derived.Test.YtamimaoaafapbaaDoorLexS
import Derived.Test.YtamimaoaafapbaaDoorLexRE
namespace Go.Proofs.YtamimaoaafapbaaDoor
open Go Go.RowKit

theorem infoRTok : (Tryd.prog.info? 49).map (fun i => (i.zero, i.size, i.bytes)) = some (some (.agg #[.int .i64 0, .int .i64 0, .string ⟨#[]⟩, .int .u64 0, .bool false, .bool false]), 6, 48) := by kernel_rfl

def rtokL (t : Tok) : List Value := [.int .i64 t.kind, .int .i64 t.at_, .string (B t.text), .int .u64 t.value, .bool t.uns, .bool t.long]
def flatR (ts : List Tok) : List Value := ts.flatMap rtokL
theorem flatR_snoc (ts : List Tok) (t : Tok) : flatR (ts ++ [t]) = flatR ts ++ rtokL t := by simp [flatR]
theorem rtokL_one (t : Tok) : ∀ u ∈ rtokL t, u.oneCell' = true := by
  intro u hu
  simp [rtokL] at hu
  rcases hu with rfl | rfl | rfl | rfl | rfl | rfl <;> rfl

def RScanRes (base : Nat) (r : Scanned) (e : Ending) (w' : World) : Prop := match r with
  | .size => e = .returned (.tuple #[.slice none 0 0, .agg #[.int .i64 2, .int .i64 16384]])
  | .lex a => e = .returned (.tuple #[.slice none 0 0, .agg #[.int .i64 10, .int .i64 a]])
  | .ok ts => ∃ v, e = .returned (.tuple #[v, .agg #[.int .i64 0, .int .i64 0]]) ∧ w'.ownsRow base 49 6 v ts.length (flatR ts)

theorem firstT_open (l : List UInt8) (h : Lib.hasPrefix l [47, 42] = true) : firstT l = none := by
  obtain ⟨t, rfl⟩ := pre_len h
  unfold firstT
  simp only [List.getD_cons_zero]
  rw [if_neg (by decide), if_neg (by decide), if_neg (by decide), if_pos h]
theorem scanF_go (l : List UInt8) (f z n : Nat) (hne : l.drop z ≠ []) (t : Tok) (ht : firstT (l.drop z) = some t) (hn : n = t.text.length) (acc : List Tok) :
    contS acc (scanF (f + 1) (l.drop z) z) = contS (acc ++ [{ t with at_ := z }]) (scanF f (l.drop (zAt l (z + n))) (zAt l (z + n))) := by
  rw [scanF_some _ _ _ hne t ht, ← hn]
  have e1 : ((l.drop z).drop n).drop (blanks ((l.drop z).drop n)) = l.drop (zAt l (z + n)) := by
    unfold zAt
    simp only [List.drop_drop]
    all_goals (congr 1 <;> omega)
  have e2 : z + n + blanks ((l.drop z).drop n) = zAt l (z + n) := by
    rw [List.drop_drop]; unfold zAt; rfl
  rw [e1, e2]
  cases scanF f (l.drop (zAt l (z + n))) (zAt l (z + n)) with
  | error e => rfl
  | ok ts => simp [contS]

set_option maxHeartbeats 2000000 in
set_option maxRecDepth 100000 in
theorem rscan_any (s : ByteArray) (hs : s.size ≤ 1048576) (w : World) :
    Calls Tryd.prog 10 #[.string s] w fun e w' => RScanRes (w.heap.size + 1) (scanM s.data.toList) e w' ∧ Below w.heap.size w w' := by
  have HS := Lib.hid (Lib.size_eq s)
  by_cases hbig : 16384 < s.size
  · have HM : Hid (scanM s.data.toList = .size) := Lib.hid (by unfold scanM; rw [if_pos (by rw [← HS.out]; exact hbig)])
    go_enter Tryd.func10, Tryd.ntmps10
    go_wp2
    refine bodyPost_ret (v := .tuple #[.slice none 0 0, .agg #[.int .i64 2, .int .i64 16384]]) ?_ rfl ⟨by rw [HM.out]; rfl, ?_⟩
    · simp [results, Tryd.results10, go_sem]
    · exact (Below.refl _ _).alloc (Nat.le_refl _) _
  · obtain ⟨i0, hi, hz0, hz1, hz2⟩ := info_parts infoRTok
    have H0 : Hid (scanM s.data.toList = contS [] (scanF (s.size + 1) (s.data.toList.drop (zAt s.data.toList 0)) (zAt s.data.toList 0))) := by
      refine Lib.hid ?_
      have e : zAt s.data.toList 0 = blanks s.data.toList := by unfold zAt; rw [List.drop_zero, Nat.zero_add]
      rw [e]
      unfold scanM
      rw [if_neg (by rw [← HS.out]; exact hbig), HS.out]
      cases scanF (s.data.toList.length + 1) (s.data.toList.drop (blanks s.data.toList)) (blanks s.data.toList) <;> rfl
    go_enter Tryd.func10, Tryd.ntmps10
    go_wp2_with fail
    go_loopw [4, 5] (fun vl va wr => ∃ (p f : Nat) (acc : List Tok), va = .int .i64 p ∧ p ≤ s.size ∧ s.size < p + f ∧ acc.length ≤ p ∧ Hid (scanM s.data.toList = contS acc (scanF f (s.data.toList.drop (zAt s.data.toList p)) (zAt s.data.toList p))) ∧ wr.ownsRow (w.heap.size + 1) 49 6 vl acc.length (flatR acc) ∧ Below (w.heap.size + 1) (w.alloc (.cells #[.int .i64 0, .int .i64 0] 26)) wr) (fun _ va _ => s.size - (intOf va).toNat)
    case atStart => exact ⟨0, s.size + 1, [], rfl, by omega, by omega, by simp, H0, World.ownsRow_nil _ _ _ _, Below.refl _ _⟩
    case round =>
      obtain ⟨p, f, acc, rfl, hp, hf, hacc, HK, hown, hbw⟩ := hrel
      clear H0
      obtain ⟨f, rfl⟩ : ∃ f', f = f' + 1 := ⟨f - 1, by omega⟩
      have hsz : w.heap.size < wr.heap.size := by have := hbw.size; simp at this; omega
      obtain ⟨z, hz⟩ : ∃ z, zAt s.data.toList p = z := ⟨_, rfl⟩
      have hzl : z ≤ s.size := by rw [← hz, HS.out]; exact zAt_le _ _ (by rw [← HS.out]; exact hp)
      have hpz : p ≤ z := by rw [← hz]; unfold zAt; omega
      have HK2 := Lib.hid (show scanM s.data.toList = contS acc (scanF (f + 1) (s.data.toList.drop z) z) by rw [← hz]; exact HK.out)
      have hc0 : wr.cell? ⟨w.heap.size, 0, none⟩ = some (.int .i64 0) := by rw [hbw.cell (p := ⟨w.heap.size, 0, none⟩) (by simp)]; simp
      have hc1 : wr.cell? ⟨w.heap.size, 1, none⟩ = some (.int .i64 0) := by rw [hbw.cell (p := ⟨w.heap.size, 1, none⟩) (by simp)]; simp
      have hf0 : wr.frozen? ⟨w.heap.size, 0, none⟩ = false := by rw [hbw.frozen (p := ⟨w.heap.size, 0, none⟩) (by simp)]; simp
      have hf1 : wr.frozen? ⟨w.heap.size, 1, none⟩ = false := by rw [hbw.frozen (p := ⟨w.heap.size, 1, none⟩) (by simp)]; simp
      have hb3 : Below w.heap.size w wr := ((Below.refl _ _).alloc (Nat.le_refl _) _).trans (hbw.mono (by omega))
      have HBW := Lib.hid hbw
      have HOWN := Lib.hid hown
      have HB3 := Lib.hid hb3
      cases hop : Lib.hasPrefix (s.data.toList.drop z) [47, 42] with
      | true =>
        have hskA := (sk_yes _ _ _ hz hop).1
        have hskB := (sk_yes _ _ _ hz hop).2
        have hne : s.data.toList.drop z ≠ [] := by intro h; rw [h] at hop; cases hop
        have HN : Hid (scanM s.data.toList = .lex z) := Lib.hid (by rw [HK2.out, scanF_none _ _ _ hne (firstT_open _ hop)]; rfl)
        have C1 := Lib.hid (show ∀ w, Calls Tryd.prog 14 #[.string s, .int .i64 p] w fun e w' => e = .returned (.tuple #[.int .i64 (-1), .int .i64 z]) ∧ w = w' from fun w => by have h := skip_any s hs p hp w; rw [hskA, hskB] at h; exact h)
        clear hskA hskB hne hop hz hbw hown hb3 HK HK2
        go_wp2_with (go_at_call 14; (with_reducible refine (C1.out _).mono ?_); rintro e w' ⟨rfl, rfl⟩)
        refine bodyPost_ret (v := .tuple #[.slice none 0 0, .agg #[.int .i64 10, .int .i64 z]]) ?_ rfl ⟨by rw [HN.out]; rfl, ?_⟩
        · simp [results, Tryd.results10, go_sem, hc0, hc1]
        · have hbb := HB3.out
          ((repeat (first | (with_reducible exact hbb) | (with_reducible apply Below.setCell) | (with_reducible apply Below.alloc))) <;> first | omega | (simp <;> omega))
      | false =>
        have hskA := (sk_no _ _ _ hz hop).1
        have hskB := (sk_no _ _ _ hz hop).2
        have C1 := Lib.hid (show ∀ w, Calls Tryd.prog 14 #[.string s, .int .i64 p] w fun e w' => e = .returned (.tuple #[.int .i64 z, .int .i64 0]) ∧ w = w' from fun w => by have h := skip_any s hs p hp w; rw [hskA, hskB] at h; exact h)
        clear hskA hskB hz
        by_cases hlt : z < s.size
        · have hne : s.data.toList.drop z ≠ [] := by
            intro h
            have := congrArg List.length h
            rw [List.length_drop, ← HS.out] at this
            simp at this; omega
          have C2 := Lib.hid (fun w => one_any s hs z hlt hop w)
          have hzs : ((z : Int) == (s.size : Int)) = false := by simp; omega
          clear hop hbw hown hb3 HK
          go_wp2_with (go_at_call 14; (with_reducible refine (C1.out _).mono ?_); rintro e w' ⟨rfl, rfl⟩)
          refine (C2.out _).mono ?_
          rintro e w1 ⟨hr, hb⟩
          cases ht : firstT (s.data.toList.drop z) with
          | none =>
            rw [ht] at hr
            obtain ⟨t, htx, rfl⟩ := hr
            have HN : Hid (scanM s.data.toList = .lex z) := Lib.hid (by rw [HK2.out, scanF_none _ _ _ hne ht]; rfl)
            have hb4 : Below w.heap.size w w1 := HB3.out.trans (hb.mono (by omega))
            have d0 : w1.cell? ⟨w.heap.size, 0, none⟩ = some (.int .i64 0) := by rw [hb.cell (p := ⟨w.heap.size, 0, none⟩) hsz]; exact hc0
            have d1 : w1.cell? ⟨w.heap.size, 1, none⟩ = some (.int .i64 0) := by rw [hb.cell (p := ⟨w.heap.size, 1, none⟩) hsz]; exact hc1
            have g0 : w1.frozen? ⟨w.heap.size, 0, none⟩ = false := by rw [hb.frozen (p := ⟨w.heap.size, 0, none⟩) hsz]; exact hf0
            have g1 : w1.frozen? ⟨w.heap.size, 1, none⟩ = false := by rw [hb.frozen (p := ⟨w.heap.size, 1, none⟩) hsz]; exact hf1
            have hzw : w.heap.size < w1.heap.size := by have := hb.size; omega
            have HB4 := Lib.hid hb4
            unfold rTokV
            rw [htx, show B [] = ⟨#[]⟩ from rfl]
            clear ht htx hb hb4 hc0 hc1 hf0 hf1 HBW HOWN hne
            go_wp2_with fail
            refine bodyPost_ret (v := .tuple #[.slice none 0 0, .agg #[.int .i64 10, .int .i64 z]]) ?_ rfl ⟨by rw [HN.out]; rfl, ?_⟩
            · simp [results, Tryd.results10, go_sem, d0, d1, hzw]
            · have hbb := HB4.out
              ((repeat (first | (with_reducible exact hbb) | (with_reducible apply Below.setCell) | (with_reducible apply Below.alloc))) <;> first | omega | (simp <;> omega))
          | some t =>
            rw [ht] at hr
            obtain rfl := hr
            obtain ⟨hl1, hl2, hl3⟩ := firstT_len _ hne t ht
            obtain ⟨n, hn⟩ : ∃ n, n = t.text.length := ⟨_, rfl⟩
            have hsB : (B t.text).size = n := by rw [hn, B_size]
            have hnt : t.text ≠ [] := by intro h; rw [h] at hl1; simp at hl1
            have hemp : ((B t.text).toList == []) = false := by rw [Lib.toList_data, B_list]; exact beq_eq_false_iff_ne.2 hnt
            have hemp2 : (B t.text).toList.isEmpty = false := by
              rw [Lib.toList_data, B_list]
              cases hx : t.text with
              | nil => exact absurd hx hnt
              | cons c r => rfl
            rw [← hn] at hl1 hl2
            have hl2' : z + n ≤ s.size := by rw [List.length_drop, ← HS.out] at hl2; omega
            have HR : Hid (scanM s.data.toList = contS (acc ++ [{ t with at_ := z }]) (scanF f (s.data.toList.drop (zAt s.data.toList (z + n))) (zAt s.data.toList (z + n)))) := by
              refine Lib.hid ?_
              rw [HK2.out]
              exact scanF_go _ f z n hne t ht hn acc
            have hown1 := ownsRow_below HOWN.out hb
            have hb2 : Below (w.heap.size + 1) (w.alloc (.cells #[.int .i64 0, .int .i64 0] 26)) w1 := HBW.out.trans (hb.mono (by omega))
            have hzw : w.heap.size < w1.heap.size := by have := hb.size; omega
            unfold rTokV
            clear hl3 ht hl2 hne hn hb hnt hc0 hc1 hf0 hf1 HBW HOWN HB3 HK2
            go_wp2_with (at_builtin; go_must (refine wpList_append_own _ rfl _ _ 29 rfl (w.heap.size + 1) 49 i0 (.agg #[.int .i64 0, .int .i64 0, .string ⟨#[]⟩, .int .u64 0, .bool false, .bool false]) 6 48 Tryd.underlying29 hi hz0 hz1 hz2 rfl (by decide) _ _ _ rfl ((hown1.alloc _).alloc _) ⟨w1.heap.size + 1, 0, none⟩ 1 1 [.int .i64 t.kind, .int .i64 z, .string (B t.text), .int .u64 t.value, .bool t.uns, .bool t.long] rfl rfl ?c1 ?c2 ?c3 ?c4 ?c5 ?c6))
            case c1 =>
              intro j u hj
              have := cells_new (w1.alloc (.cells #[.int .i64 t.kind, .int .i64 z, .string (B t.text), .int .u64 t.value, .bool t.uns, .bool t.long] 49)) _ 49 j u hj
              rw [World.size_alloc] at this
              exact this
            case c2 => exact rtokL_one { t with at_ := z }
            case c3 => unfold maxLen; omega
            case c4 => omega
            case c5 => simp; omega
            case c6 =>
              intro v' w2 hown2 hgrow hnil
              have hbw2 : Below (w.heap.size + 1) (w.alloc (.cells #[.int .i64 0, .int .i64 0] 26)) w2 := Below.grown ((hb2.alloc (by omega) _).alloc (by simp; omega) _) hgrow (by simp; omega) (fun j hj => (hown1.lt _ hj).1)
              have hcT : w2.cell? ⟨w1.heap.size, 2, none⟩ = some (.string (B t.text)) := by
                rw [World.cell?_of_block (hgrow.block w1.heap.size (by simp; omega) (fun h => by have := (hown1.lt _ h.symm).2; omega))]
                simp
              have X : Hid (w2.ownsRow (w.heap.size + 1) 49 6 v' (acc.length + 1) (flatR acc ++ rtokL { t with at_ := z }) ∧ Below (w.heap.size + 1) (w.alloc (.cells #[.int .i64 0, .int .i64 0] 26)) w2) := ⟨hown2, hbw2⟩
              clear hown2 hgrow hnil hbw2 hown1 hb2
              go_wp2_with fail
              go_roundw
              case rel => exact ⟨z + n, f, acc ++ [{ t with at_ := z }], by go_num, by omega, by omega, by simp; omega, HR, by rw [flatR_snoc, List.length_append]; exact X.out.1, X.out.2⟩
              case measure => simp [intOf]; omega
        · have hzs : ((z : Int) == (s.size : Int)) = true := by simp; omega
          have HN : Hid (scanM s.data.toList = .ok (acc ++ [{ kind := 0, text := [], at_ := z, value := 0, uns := false, long := false }])) := by
            refine Lib.hid ?_
            rw [HK2.out, List.drop_eq_nil_of_le (by rw [← HS.out]; omega), scanF_nil]; rfl
          clear HK HK2 hc1 hf0 hf1 hb3 HB3 HBW HOWN hop
          go_wp2_with (first | (go_at_call 14; (with_reducible refine (C1.out _).mono ?_); rintro e w' ⟨rfl, rfl⟩) | (at_builtin; go_must (refine wpList_append_own _ rfl _ _ 29 rfl (w.heap.size + 1) 49 i0 (.agg #[.int .i64 0, .int .i64 0, .string ⟨#[]⟩, .int .u64 0, .bool false, .bool false]) 6 48 Tryd.underlying29 hi hz0 hz1 hz2 rfl (by decide) _ _ _ rfl (hown.alloc _) ⟨wr.heap.size, 0, none⟩ 1 1 [.int .i64 0, .int .i64 z, .string ⟨#[]⟩, .int .u64 0, .bool false, .bool false] rfl rfl ?d1 ?d2 ?d3 ?d4 ?d5 ?d6)))
          case d1 => exact cells_new wr _ _
          case d2 => exact rtokL_one { kind := 0, text := [], at_ := z, value := 0, uns := false, long := false }
          case d3 => unfold maxLen; omega
          case d4 => omega
          case d5 => simp; omega
          case d6 =>
            intro v' w2 hown2 hgrow hnil
            have hbw2 : Below (w.heap.size + 1) (w.alloc (.cells #[.int .i64 0, .int .i64 0] 26)) w2 := Below.grown (hbw.alloc (by omega) _) hgrow (by simp; omega) (fun j hj => (hown.lt _ hj).1)
            have hb3 : Below w.heap.size w w2 := ((Below.refl _ _).alloc (Nat.le_refl _) _).trans (hbw2.mono (by omega))
            have X : Hid (w2.ownsRow (w.heap.size + 1) 49 6 v' (acc.length + 1) (flatR acc ++ rtokL { kind := 0, text := [], at_ := z, value := 0, uns := false, long := false })) := hown2
            have hc0 : w2.cell? ⟨w.heap.size, 0, none⟩ = some (.int .i64 0) := by rw [hbw2.cell (p := ⟨w.heap.size, 0, none⟩) (by simp)]; simp
            have hc1 : w2.cell? ⟨w.heap.size, 1, none⟩ = some (.int .i64 0) := by rw [hbw2.cell (p := ⟨w.heap.size, 1, none⟩) (by simp)]; simp
            have hf0 : w2.frozen? ⟨w.heap.size, 0, none⟩ = false := by rw [hbw2.frozen (p := ⟨w.heap.size, 0, none⟩) (by simp)]; simp
            have hf1 : w2.frozen? ⟨w.heap.size, 1, none⟩ = false := by rw [hbw2.frozen (p := ⟨w.heap.size, 1, none⟩) (by simp)]; simp
            have HB5 := Lib.hid hb3
            clear hown2 hgrow hnil hbw2 hown hbw hb3
            go_wp2_with fail
            refine bodyPost_ret (v := .tuple #[v', .agg #[.int .i64 0, .int .i64 0]]) ?_ rfl ⟨?_, ?_⟩
            · simp [results, Tryd.results10, go_sem, hc0, hc1]
            · rw [HN.out]
              refine ⟨v', rfl, ?_⟩
              rw [flatR_snoc, List.length_append]
              exact ownsRow_setCell_below (ownsRow_setCell_below X.out (by simp) _) (by simp) _
            · have hbb := HB5.out
              ((repeat (first | (with_reducible exact hbb) | (with_reducible apply Below.setCell) | (with_reducible apply Below.alloc))) <;> first | omega | (simp <;> omega))
end Go.Proofs.YtamimaoaafapbaaDoor
