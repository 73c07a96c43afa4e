import Derived.Test.YtamimaoaafapbaaDoorLexI
import Derived.Test.YtamimaoaafapbaaDoorLexJ
import Derived.OwnWalk
namespace Go.Proofs.YtamimaoaafapbaaDoor
open Go Go.RowKit

theorem infoTok : (Tryd.prog.info? 36).map (fun i => (i.zero, i.size, i.bytes)) = some (some (.agg #[.int .i64 0, .string ⟨#[]⟩, .int .i64 0, .int .u64 0, .bool false, .bool false]), 6, 48) := by kernel_rfl

theorem cells_new (w : World) (L : List Value) (t : TypeId) : ∀ j u, L[j]? = some u → (w.alloc (.cells L.toArray t)).cell? ((⟨w.heap.size, 0, none⟩ : Addr).add j) = some u := by
  intro j u hj
  cases j with
  | zero => simp [Addr.add, hj]
  | succ j => simp [Addr.add, hj]

theorem ownsRow_below {w w' : World} {base : Nat} {e : TypeId} {size : Nat} {v : Value} {n : Nat} {xs : List Value} (h : w.ownsRow base e size v n xs) (hb : Below w.heap.size w w') : w'.ownsRow base e size v n xs := by
  obtain ⟨h1, h2⟩ := h
  refine ⟨h1, ?_⟩
  rcases h2 with h2 | ⟨g, cap, cur, hv, hg, hh, h3⟩
  · exact .inl h2
  · refine .inr ⟨g, cap, cur, hv, hg, ?_, h3⟩
    have hlt : g < w.heap.size := by
      rcases Nat.lt_or_ge g w.heap.size with h | h
      · exact h
      · rw [Array.getElem?_eq_none h] at hh; cases hh
    rw [hb.block g hlt]; exact hh

def tokL (t : Tok) : List Value := [.int .i64 t.kind, .string (B t.text), .int .i64 t.at_, .int .u64 t.value, .bool t.uns, .bool t.long]
def flatT (ts : List Tok) : List Value := ts.flatMap tokL
theorem flatT_snoc (ts : List Tok) (t : Tok) : flatT (ts ++ [t]) = flatT ts ++ tokL t := by simp [flatT]
theorem tokL_one (t : Tok) : ∀ u ∈ tokL t, u.oneCell' = true := by
  intro u hu
  simp [tokL] at hu
  rcases hu with rfl | rfl | rfl | rfl | rfl | rfl <;> rfl

/-- What Scan hands back. -/
def ScanRes (base : Nat) (r : Scanned) (e : Ending) (w' : World) : Prop := match r with
  | .size => e = .returned (.tuple #[.slice none 0 0, .agg #[.int .i64 2, .int .i64 16384]])
  | .lex a => e = .returned (.tuple #[.slice none 0 0, .agg #[.int .i64 10, .int .i64 a]])
  | .ok ts => ∃ v, e = .returned (.tuple #[v, .agg #[.int .i64 0, .int .i64 0]]) ∧ w'.ownsRow base 36 6 v ts.length (flatT ts)

def contS (acc : List Tok) : Except Nat (List Tok) → Scanned
  | .error e => .lex e
  | .ok ts => .ok (acc ++ ts)

set_option maxHeartbeats 2000000 in
set_option maxRecDepth 100000 in
theorem scan_any (s : ByteArray) (hs : s.size ≤ 1048576) (w : World) (hg : G w) :
    Calls Tryd.prog 9 #[.string s] w fun e w' => ScanRes (w.heap.size + 1) (scanM s.data.toList) e w' ∧ Below w.heap.size w w' := by
  have HS := Lib.hid (Lib.size_eq s)
  by_cases hbig : 16384 < s.size
  · have HM : Hid (scanM s.data.toList = .size) := Lib.hid (by unfold scanM; rw [if_pos (by rw [← HS.out]; exact hbig)])
    clear hg
    go_enter Tryd.func9, Tryd.ntmps9
    go_wp2
    refine bodyPost_ret (v := .tuple #[.slice none 0 0, .agg #[.int .i64 2, .int .i64 16384]]) ?_ rfl ⟨by rw [HM.out]; rfl, ?_⟩
    · simp [results, Tryd.results9, go_sem]
    · exact (Below.refl _ _).alloc (Nat.le_refl _) _
  · obtain ⟨i0, hi, hz0, hz1, hz2⟩ := info_parts infoTok
    have hg1 : G (w.alloc (.cells #[.int .i64 0, .int .i64 0] 26)) := hg.below ((Below.refl _ _).alloc (Nat.le_refl _) _)
    have HG := Lib.hid hg1
    have H0 : Hid (scanM s.data.toList = contS [] (scanF (s.size + 1) (s.data.toList.drop (blanks s.data.toList)) (blanks s.data.toList))) := by
      refine Lib.hid ?_
      unfold scanM
      rw [if_neg (by rw [← HS.out]; exact hbig), HS.out]
      cases scanF (s.data.toList.length + 1) (s.data.toList.drop (blanks s.data.toList)) (blanks s.data.toList) <;> rfl
    have hbl : blanks s.data.toList ≤ s.size := by rw [HS.out]; exact blanks_le _
    obtain ⟨b0, hb0⟩ : ∃ b0, b0 = blanks s.data.toList := ⟨_, rfl⟩
    rw [← hb0] at H0 hbl
    have HB0 : Hid (blanks s.data.toList = b0) := Lib.hid hb0.symm
    clear hg hg1 hb0
    go_enter Tryd.func9, Tryd.ntmps9
    go_wp2_with (go_at_call 12; refine (blanks_any s hs _ HG.out).mono ?_; rintro e w' ⟨rfl, rfl⟩; rw [HB0.out])
    go_loopw [4, 5] (fun vl va wr => ∃ (at_ f : Nat) (acc : List Tok), va = .int .i64 at_ ∧ at_ ≤ s.size ∧ s.size < at_ + f ∧ acc.length ≤ at_ ∧ Hid (scanM s.data.toList = contS acc (scanF f (s.data.toList.drop at_) at_)) ∧ wr.ownsRow (w.heap.size + 1) 36 6 vl acc.length (flatT acc) ∧ Below (w.heap.size + 1) (w.alloc (.cells #[.int .i64 0, .int .i64 0] 26)) wr) (fun _ va _ => s.size - (intOf va).toNat)
    case atStart => exact ⟨b0, s.size + 1, [], rfl, hbl, by omega, by simp, H0, World.ownsRow_nil _ _ _ _, Below.refl _ _⟩
    case round =>
      obtain ⟨at_, f, acc, rfl, hat, hf, hacc, HK, hown, hbw⟩ := hrel
      clear H0 HB0
      obtain ⟨f, rfl⟩ : ∃ f', f = f' + 1 := ⟨f - 1, by omega⟩
      have hgr : G wr := by
        have := HG.out
        exact this.below (hbw.mono (by simp))
      have hsz : w.heap.size < wr.heap.size := by have := hbw.size; simp at this; omega
      by_cases hlt : at_ < s.size
      · have hne : s.data.toList.drop at_ ≠ [] := by
          intro h
          have := congrArg List.length h
          rw [List.length_drop, ← HS.out] at this
          simp at this; omega
        have hdat : (s.extract at_ s.size).data.toList = s.data.toList.drop at_ := Lib.extract_to_end _ _
        have hes : (s.extract at_ s.size).size = s.size - at_ := by rw [Lib.size_eq, hdat, List.length_drop, ← HS.out]
        have c1 := Lib.hid (fun w hg => first_any (s.extract at_ s.size) (by omega) (by omega) w hg)
        clear hes
        go_wp2_with fail
        refine (c1.out _ hgr).mono ?_
        rintro e w1 ⟨hr, hb⟩
        rw [hdat] at hr
        cases ht : firstT (s.data.toList.drop at_) with
        | none =>
          rw [ht] at hr
          obtain ⟨t, rfl⟩ := hr
          have HN : Hid (scanM s.data.toList = .lex at_) := Lib.hid (by rw [HK.out, scanF_none _ _ _ hne ht]; rfl)
          unfold tokV
          have hb2 : Below (w.heap.size + 1) (w.alloc (.cells #[.int .i64 0, .int .i64 0] 26)) w1 := hbw.trans (hb.mono (by omega))
          have hb3 : Below w.heap.size w w1 := ((Below.refl _ _).alloc (Nat.le_refl _) _).trans (hb2.mono (by omega))
          have hc0 : w1.cell? ⟨w.heap.size, 0, none⟩ = some (.int .i64 0) := by rw [hb2.cell (p := ⟨w.heap.size, 0, none⟩) (by simp)]; simp
          have hc1 : w1.cell? ⟨w.heap.size, 1, none⟩ = some (.int .i64 0) := by rw [hb2.cell (p := ⟨w.heap.size, 1, none⟩) (by simp)]; simp
          have hf0 : w1.frozen? ⟨w.heap.size, 0, none⟩ = false := by rw [hb2.frozen (p := ⟨w.heap.size, 0, none⟩) (by simp)]; simp
          have hf1 : w1.frozen? ⟨w.heap.size, 1, none⟩ = false := by rw [hb2.frozen (p := ⟨w.heap.size, 1, none⟩) (by simp)]; simp
          have hzw : w.heap.size < w1.heap.size := by have := hb3.size; have := hb.size; omega
          clear ht hown hbw hb hb2
          go_wp2
          refine bodyPost_ret (v := .tuple #[.slice none 0 0, .agg #[.int .i64 10, .int .i64 at_]]) ?_ rfl ⟨by rw [HN.out]; rfl, ?_⟩
          · simp [results, Tryd.results9, go_sem, hc0, hc1, hzw]
          · ((repeat (first | (with_reducible exact hb3) | (with_reducible apply Below.setCell) | (with_reducible apply Below.alloc))) <;> first | omega | (simp <;> omega))
        | some t =>
          rw [ht] at hr
          obtain rfl := hr
          obtain ⟨hl1, hl2, hl3⟩ := firstT_len _ hne t ht
          obtain ⟨n, hn⟩ : ∃ n, n = t.text.length := ⟨_, rfl⟩
          have hsB : (B t.text).size = n := by rw [hn, B_size]
          rw [← hn] at hl1 hl2
          have hl2' : at_ + n ≤ s.size := by rw [List.length_drop, ← HS.out] at hl2; omega
          obtain ⟨k, hk⟩ : ∃ k, k = blanks ((s.data.toList.drop at_).drop n) := ⟨_, rfl⟩
          have hkl : k ≤ s.size - (at_ + n) := by
            have := blanks_le ((s.data.toList.drop at_).drop n)
            rw [← hk, List.drop_drop, List.length_drop, ← HS.out] at this; exact this
          have HR : Hid (scanM s.data.toList = contS (acc ++ [{ t with at_ := at_ }]) (scanF f (s.data.toList.drop (at_ + n + k)) (at_ + n + k))) := by
            refine Lib.hid ?_
            rw [HK.out, scanF_some _ _ _ hne t ht, ← hn, ← hk, List.drop_drop, List.drop_drop, show at_ + (n + k) = at_ + n + k from by omega]
            cases scanF f (s.data.toList.drop (at_ + n + k)) (at_ + n + k) with
            | error e => rfl
            | ok ts => simp [contS]
          have HB2 : Hid (blanks (s.extract (at_ + n) s.size).data.toList = k) := Lib.hid (by rw [Lib.extract_to_end, hk, List.drop_drop])
          have c2 := Lib.hid (fun w hg => blanks_any (s.extract (at_ + n) s.size) (by rw [Lib.size_eq, Lib.extract_to_end, List.length_drop, ← HS.out]; omega) w hg)
          unfold tokV
          have hown1 := ownsRow_below hown hb
          have hb2 : Below (w.heap.size + 1) (w.alloc (.cells #[.int .i64 0, .int .i64 0] 26)) w1 := hbw.trans (hb.mono (by omega))
          have hzw : w.heap.size < w1.heap.size := by have := hb.size; omega
          clear hown hl3 ht hl2 hne hn hk hb hbw
          go_wp2_with (at_builtin; go_must (refine wpList_append_own _ rfl _ _ 23 rfl (w.heap.size + 1) 36 i0 (.agg #[.int .i64 0, .string ⟨#[]⟩, .int .i64 0, .int .u64 0, .bool false, .bool false]) 6 48 Tryd.underlying23 hi hz0 hz1 hz2 rfl (by decide) _ _ _ rfl ((hown1.alloc _).alloc _) ⟨w1.heap.size + 1, 0, none⟩ 1 1 [.int .i64 t.kind, .string (B t.text), .int .i64 at_, .int .u64 t.value, .bool t.uns, .bool t.long] rfl rfl ?c1 ?c2 ?c3 ?c4 ?c5 ?c6))
          case c1 =>
            intro j u hj
            have := cells_new (w1.alloc (.cells #[.int .i64 t.kind, .string (B t.text), .int .i64 at_, .int .u64 t.value, .bool t.uns, .bool t.long] 36)) _ 36 j u hj
            rw [World.size_alloc] at this
            exact this
          case c2 => exact tokL_one { t with at_ := at_ }
          case c3 => unfold maxLen; omega
          case c4 => omega
          case c5 => simp; omega
          case c6 =>
            intro v' w2 hown2 hgrow hnil
            have hbw2 : Below (w.heap.size + 1) (w.alloc (.cells #[.int .i64 0, .int .i64 0] 26)) w2 := Below.grown ((hb2.alloc (by omega) _).alloc (by simp; omega) _) hgrow (by simp; omega) (fun j hj => (hown1.lt _ hj).1)
            have hcT : w2.cell? ⟨w1.heap.size, 1, none⟩ = some (.string (B t.text)) := by
              rw [World.cell?_of_block (hgrow.block w1.heap.size (by simp; omega) (fun h => by have := (hown1.lt _ h.symm).2; omega))]
              simp
            have hgr2 : G w2 := HG.out.below (hbw2.mono (by simp))
            have X : Hid (w2.ownsRow (w.heap.size + 1) 36 6 v' (acc.length + 1) (flatT acc ++ tokL { t with at_ := at_ }) ∧ Below (w.heap.size + 1) (w.alloc (.cells #[.int .i64 0, .int .i64 0] 26)) w2) := ⟨hown2, hbw2⟩
            have HG2 := Lib.hid hgr2
            clear hown2 hgrow hnil hbw2 hgr2 hown1 hb2 hgr
            go_wp2_with (go_at_call 12; refine (c2.out _ HG2.out).mono ?_; rintro e w' ⟨rfl, rfl⟩; rw [HB2.out])
            go_roundw
            case rel => exact ⟨at_ + n + k, f, acc ++ [{ t with at_ := at_ }], by go_num, by omega, by omega, by simp; omega, HR, by rw [flatT_snoc, List.length_append]; exact X.out.1, X.out.2⟩
            case measure => simp [intOf]; omega
      · have hend : at_ = s.size := by omega
        have HN : Hid (scanM s.data.toList = .ok (acc ++ [{ kind := 0, text := [], at_ := at_, value := 0, uns := false, long := false }])) := by
          refine Lib.hid ?_
          rw [HK.out, List.drop_eq_nil_of_le (by rw [← HS.out]; omega), scanF_nil]; rfl
        have hc0 : wr.cell? ⟨w.heap.size, 0, none⟩ = some (.int .i64 0) := by rw [hbw.cell (p := ⟨w.heap.size, 0, none⟩) (by simp)]; simp
        clear hend HK
        go_wp2_with (at_builtin; go_must (refine wpList_append_own _ rfl _ _ 23 rfl (w.heap.size + 1) 36 i0 (.agg #[.int .i64 0, .string ⟨#[]⟩, .int .i64 0, .int .u64 0, .bool false, .bool false]) 6 48 Tryd.underlying23 hi hz0 hz1 hz2 rfl (by decide) _ _ _ rfl (hown.alloc _) ⟨wr.heap.size, 0, none⟩ 1 1 [.int .i64 0, .string ⟨#[]⟩, .int .i64 at_, .int .u64 0, .bool false, .bool false] rfl rfl ?c1 ?c2 ?c3 ?c4 ?c5 ?c6))
        case c1 => exact cells_new wr _ _
        case c2 => exact tokL_one { kind := 0, text := [], at_ := at_, value := 0, uns := false, long := false }
        case c3 => unfold maxLen; omega
        case c4 => omega
        case c5 => simp; omega
        case c6 =>
          intro v' w2 hown2 hgrow hnil
          have hbw2 : Below (w.heap.size + 1) (w.alloc (.cells #[.int .i64 0, .int .i64 0] 26)) w2 := Below.grown (hbw.alloc (by omega) _) hgrow (by simp; omega) (fun j hj => (hown.lt _ hj).1)
          have hb3 : Below w.heap.size w w2 := ((Below.refl _ _).alloc (Nat.le_refl _) _).trans (hbw2.mono (by omega))
          have X : Hid (w2.ownsRow (w.heap.size + 1) 36 6 v' (acc.length + 1) (flatT acc ++ tokL { kind := 0, text := [], at_ := at_, value := 0, uns := false, long := false })) := hown2
          have hc0 : w2.cell? ⟨w.heap.size, 0, none⟩ = some (.int .i64 0) := by rw [hbw2.cell (p := ⟨w.heap.size, 0, none⟩) (by simp)]; simp
          have hc1 : w2.cell? ⟨w.heap.size, 1, none⟩ = some (.int .i64 0) := by rw [hbw2.cell (p := ⟨w.heap.size, 1, none⟩) (by simp)]; simp
          have hf0 : w2.frozen? ⟨w.heap.size, 0, none⟩ = false := by rw [hbw2.frozen (p := ⟨w.heap.size, 0, none⟩) (by simp)]; simp
          have hf1 : w2.frozen? ⟨w.heap.size, 1, none⟩ = false := by rw [hbw2.frozen (p := ⟨w.heap.size, 1, none⟩) (by simp)]; simp
          clear hown2 hgrow hnil hbw2 hown hbw hgr
          go_wp2
          refine bodyPost_ret (v := .tuple #[v', .agg #[.int .i64 0, .int .i64 0]]) ?_ rfl ⟨?_, ?_⟩
          · simp [results, Tryd.results9, go_sem, hc0, hc1]
          · rw [HN.out]
            refine ⟨v', rfl, ?_⟩
            rw [flatT_snoc, List.length_append]
            exact ownsRow_setCell_below (ownsRow_setCell_below X.out (by simp) _) (by simp) _
          · ((repeat (first | (with_reducible exact hb3) | (with_reducible apply Below.setCell) | (with_reducible apply Below.alloc))) <;> first | omega | (simp <;> omega))
end Go.Proofs.YtamimaoaafapbaaDoor
