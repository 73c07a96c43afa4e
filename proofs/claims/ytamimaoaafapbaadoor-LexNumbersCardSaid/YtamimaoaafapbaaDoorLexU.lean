import Derived.Test.YtamimaoaafapbaaDoorLexT
namespace Go.Proofs.YtamimaoaafapbaaDoor
open Go Go.RowKit

def okW (j d : Nat) : Bool :=
  words.contains (words.getD j [] ++ [UInt8.ofNat (97 + d)]) ||
  match scanM (words.getD j [] ++ [32] ++ (words.getD j [] ++ [UInt8.ofNat (97 + d)])) with
  | .ok [a, b, _] => a.kind == 2 && b.kind == 1 && b.text == words.getD j [] ++ [UInt8.ofNat (97 + d)]
  | _ => false
theorem okW_all : ((List.range 22).all fun j => (List.range 26).all fun d => okW j d) = true := by kernel_rfl
theorem okW_at (j d : Nat) (hj : j < 22) (hd : d < 26) : okW j d = true := by
  have h := okW_all
  rw [List.all_eq_true] at h
  have h2 := h j (List.mem_range.2 hj)
  rw [List.all_eq_true] at h2
  exact h2 d (List.mem_range.2 hd)

theorem rem22 (n : Int) : ∃ r : Nat, (wrap64 (n.tmod 22 + 22)).tmod 22 = (r : Int) ∧ r < 22 := by
  have h1 := Int.tmod_lt_of_pos n (show (0 : Int) < 22 by omega)
  have h2 := Int.lt_tmod_of_pos n (show (0 : Int) < 22 by omega)
  have h3 : wrap64 (n.tmod 22 + 22) = n.tmod 22 + 22 := by unfold wrap64; omega
  rw [h3, Int.tmod_eq_emod_of_nonneg (by omega)]
  exact ⟨((n.tmod 22 + 22) % 22).toNat, by omega, by omega⟩

theorem B_append (a b : List UInt8) : B a ++ B b = B (a ++ b) := by
  have : (B a ++ B b).data.toList = a ++ b := by simp [B]
  rw [← B_of (B a ++ B b), this]

theorem bytes1 (W : World) (u : UInt8) : (convert 37 9 (.slice (some ⟨W.heap.size, 0, none⟩) 1 1)).run Tryd.prog (W.alloc (.cells #[.int .u8 u.toNat] 5)) = .ok (.string (B [u])) (W.alloc (.cells #[.int .u8 u.toNat] 5)) :=
  run_convert_bytes_back (P := Tryd.prog) _ 37 9 5 ⟨W.heap.size, 0, none⟩ 1 [u] Tryd.underlying37 Tryd.underlying5 Tryd.underlying9 (fun j hj => by
    have : j = 0 := by simp at hj; omega
    subst this
    simp [Addr.add])

def wordVs : List Value := words.map (fun l => .string (B l))
theorem wordVs_at (r : Nat) (h : r < 22) (hl : r < ([.string ⟨#[98, 114, 101, 97, 107]⟩, .string ⟨#[99, 97, 115, 101]⟩, .string ⟨#[99, 104, 97, 114]⟩, .string ⟨#[99, 111, 110, 116, 105, 110, 117, 101]⟩, .string ⟨#[100, 101, 102, 97, 117, 108, 116]⟩, .string ⟨#[100, 111]⟩, .string ⟨#[101, 108, 115, 101]⟩, .string ⟨#[102, 111, 114]⟩, .string ⟨#[105, 102]⟩, .string ⟨#[105, 110, 116]⟩, .string ⟨#[108, 111, 110, 103]⟩, .string ⟨#[112, 117, 98, 108, 105, 99]⟩, .string ⟨#[114, 101, 116, 117, 114, 110]⟩, .string ⟨#[115, 101, 99, 114, 101, 116]⟩, .string ⟨#[115, 104, 111, 114, 116]⟩, .string ⟨#[115, 105, 103, 110, 101, 100]⟩, .string ⟨#[115, 105, 122, 101, 111, 102]⟩, .string ⟨#[115, 116, 114, 117, 99, 116]⟩, .string ⟨#[115, 119, 105, 116, 99, 104]⟩, .string ⟨#[117, 110, 115, 105, 103, 110, 101, 100]⟩, .string ⟨#[118, 111, 105, 100]⟩, .string ⟨#[119, 104, 105, 108, 101]⟩] : List Value).length) : ([.string ⟨#[98, 114, 101, 97, 107]⟩, .string ⟨#[99, 97, 115, 101]⟩, .string ⟨#[99, 104, 97, 114]⟩, .string ⟨#[99, 111, 110, 116, 105, 110, 117, 101]⟩, .string ⟨#[100, 101, 102, 97, 117, 108, 116]⟩, .string ⟨#[100, 111]⟩, .string ⟨#[101, 108, 115, 101]⟩, .string ⟨#[102, 111, 114]⟩, .string ⟨#[105, 102]⟩, .string ⟨#[105, 110, 116]⟩, .string ⟨#[108, 111, 110, 103]⟩, .string ⟨#[112, 117, 98, 108, 105, 99]⟩, .string ⟨#[114, 101, 116, 117, 114, 110]⟩, .string ⟨#[115, 101, 99, 114, 101, 116]⟩, .string ⟨#[115, 104, 111, 114, 116]⟩, .string ⟨#[115, 105, 103, 110, 101, 100]⟩, .string ⟨#[115, 105, 122, 101, 111, 102]⟩, .string ⟨#[115, 116, 114, 117, 99, 116]⟩, .string ⟨#[115, 119, 105, 116, 99, 104]⟩, .string ⟨#[117, 110, 115, 105, 103, 110, 101, 100]⟩, .string ⟨#[118, 111, 105, 100]⟩, .string ⟨#[119, 104, 105, 108, 101]⟩] : List Value)[r]'hl = .string (B (words.getD r [])) := by
  have h2 : wordVs[r]? = some (.string (B (words.getD r []))) := by
    unfold wordVs
    rw [List.getElem?_map, List.getElem?_eq_getElem (show r < words.length from h)]
    simp [List.getD, List.getElem?_eq_getElem (show r < words.length from h)]
  exact (List.getElem?_eq_some_iff.1 h2).2

set_option maxRecDepth 100000 in
set_option maxHeartbeats 2000000 in
theorem lexWords_any (n : Int) (c : UInt8) (w : World) (hg : G w) :
    Calls Tryd.prog 6 #[.int .i64 n, .int .u8 c.toNat] w fun e w' => e = .returned (.bool true) ∧ Below w.heap.size w w' := by
  have C1 := Lib.hid (fit_any w hg)
  obtain ⟨r, hr, hr22⟩ := rem22 n
  have hr0 : (0 : Int) ≤ (r : Int) := by omega
  have hr1 : (r : Int) < 22 := by omega
  have hwd := wordVs_at r hr22
  obtain ⟨wd, hwdd⟩ : ∃ wd, wd = words.getD r [] := ⟨_, rfl⟩
  rw [← hwdd] at hwd
  have hwl : wd.length ≤ 8 := by
    rw [hwdd]
    have : ∀ x ∈ words, x.length ≤ 8 := by decide
    rw [List.getD, List.getElem?_eq_getElem (show r < words.length from hr22)]
    exact this _ (List.getElem_mem _)
  have HW := Lib.hid hwdd
  clear hwdd
  have hs1 : (B wd).size = wd.length := B_size _
  obtain ⟨u, hu⟩ : ∃ u : UInt8, (97 : Int) + (c.toNat : Int) % 26 = (u.toNat : Int) := ⟨UInt8.ofNat (97 + c.toNat % 26), by have := c.toNat_lt; simp; omega⟩
  go_enter Tryd.func6, Tryd.ntmps6
  have HU := Lib.hid hu
  obtain ⟨mo, hmo⟩ : ∃ mo, mo = wd ++ [u] := ⟨_, rfl⟩
  have hcat1 : B wd ++ B [u] = B mo := by rw [hmo, B_append]
  have hs2 : (B [u]).size = 1 := B_size _
  have hs3 : (B mo).size = wd.length + 1 := by rw [B_size, hmo]; simp
  have HM := Lib.hid hmo
  clear hmo
  go_wp2_with fail
  refine C1.out.mono ?_
  rintro e w1 ⟨rfl, hb⟩
  have hcv := bytes1 (w1.alloc (.cells #[.string ⟨#[98, 114, 101, 97, 107]⟩, .string ⟨#[99, 97, 115, 101]⟩, .string ⟨#[99, 104, 97, 114]⟩, .string ⟨#[99, 111, 110, 116, 105, 110, 117, 101]⟩, .string ⟨#[100, 101, 102, 97, 117, 108, 116]⟩, .string ⟨#[100, 111]⟩, .string ⟨#[101, 108, 115, 101]⟩, .string ⟨#[102, 111, 114]⟩, .string ⟨#[105, 102]⟩, .string ⟨#[105, 110, 116]⟩, .string ⟨#[108, 111, 110, 103]⟩, .string ⟨#[112, 117, 98, 108, 105, 99]⟩, .string ⟨#[114, 101, 116, 117, 114, 110]⟩, .string ⟨#[115, 101, 99, 114, 101, 116]⟩, .string ⟨#[115, 104, 111, 114, 116]⟩, .string ⟨#[115, 105, 103, 110, 101, 100]⟩, .string ⟨#[115, 105, 122, 101, 111, 102]⟩, .string ⟨#[115, 116, 114, 117, 99, 116]⟩, .string ⟨#[115, 119, 105, 116, 99, 104]⟩, .string ⟨#[117, 110, 115, 105, 103, 110, 101, 100]⟩, .string ⟨#[118, 111, 105, 100]⟩, .string ⟨#[119, 104, 105, 108, 101]⟩] 9)) u
  rw [World.size_alloc] at hcv
  have hb2 : Below w.heap.size w ((w1.alloc (.cells #[.string ⟨#[98, 114, 101, 97, 107]⟩, .string ⟨#[99, 97, 115, 101]⟩, .string ⟨#[99, 104, 97, 114]⟩, .string ⟨#[99, 111, 110, 116, 105, 110, 117, 101]⟩, .string ⟨#[100, 101, 102, 97, 117, 108, 116]⟩, .string ⟨#[100, 111]⟩, .string ⟨#[101, 108, 115, 101]⟩, .string ⟨#[102, 111, 114]⟩, .string ⟨#[105, 102]⟩, .string ⟨#[105, 110, 116]⟩, .string ⟨#[108, 111, 110, 103]⟩, .string ⟨#[112, 117, 98, 108, 105, 99]⟩, .string ⟨#[114, 101, 116, 117, 114, 110]⟩, .string ⟨#[115, 101, 99, 114, 101, 116]⟩, .string ⟨#[115, 104, 111, 114, 116]⟩, .string ⟨#[115, 105, 103, 110, 101, 100]⟩, .string ⟨#[115, 105, 122, 101, 111, 102]⟩, .string ⟨#[115, 116, 114, 117, 99, 116]⟩, .string ⟨#[115, 119, 105, 116, 99, 104]⟩, .string ⟨#[117, 110, 115, 105, 103, 110, 101, 100]⟩, .string ⟨#[118, 111, 105, 100]⟩, .string ⟨#[119, 104, 105, 108, 101]⟩] 9)).alloc (.cells #[.int .u8 u.toNat] 5)) := (hb.alloc hb.size _).alloc (by have := hb.size; simp; omega) _
  have HB2 := Lib.hid hb2
  clear hb2
  go_wp2_with fail
  clear hwd hr
  go_loop [31] (fun v => ∃ k : Nat, v = .int .i64 k ∧ k ≤ 22 ∧ Hid (∀ i, i < k → words.getD i [] ≠ mo)) (fun v => 22 - (intOf v).toNat)
  case atStart => exact ⟨0, rfl, by omega, Lib.hid (fun i hi => by omega)⟩
  case round =>
    obtain ⟨k, rfl, hk, HK⟩ := hrel
    by_cases hlt : k < 22
    · have hwk := wordVs_at k hlt
      obtain ⟨wk, hwkd⟩ : ∃ wk, wk = words.getD k [] := ⟨_, rfl⟩
      rw [← hwkd] at hwk
      have HWK := Lib.hid hwkd
      clear hwkd
      by_cases he : wk = mo
      · subst he
        go_wp2
        go_ret
        exact ⟨rfl, HB2.out⟩
      · have hte : ((B wk).toList == (B mo).toList) = false := by
          rw [Lib.toList_data, Lib.toList_data, B_list, B_list]
          exact beq_eq_false_iff_ne.2 he
        have HR : Hid (∀ i, i < k + 1 → words.getD i [] ≠ mo) := Lib.hid (fun i hi => by
          by_cases h : i = k
          · subst h; rw [← HWK.out]; exact he
          · exact HK.out i (by omega))
        clear he
        go_wp2
        go_round
        case rel => exact ⟨k + 1, by go_num, by omega, HR⟩
        case measure => simp [intOf]; omega
    · have hk22 : k = 22 := by omega
      have hud : u = UInt8.ofNat (97 + c.toNat % 26) := by
        apply UInt8.toNat_inj.1
        have h1 := HU.out
        have h2 := c.toNat_lt
        simp
        omega
      have hmw : mo = words.getD r [] ++ [UInt8.ofNat (97 + c.toNat % 26)] := by rw [HM.out, HW.out, hud]
      have hno : words.contains mo = false := by
        rw [← Bool.not_eq_true, List.contains_iff_mem]
        intro hmem
        obtain ⟨i, hi, h⟩ := List.getElem_of_mem hmem
        refine HK.out i (by rw [hk22]; exact hi) ?_
        rw [List.getD, List.getElem?_eq_getElem hi]; exact h
      have hok := okW_at r (c.toNat % 26) hr22 (by omega)
      unfold okW at hok
      rw [← hmw, hno, Bool.false_or, ← HW.out] at hok
      obtain ⟨t1, ht1⟩ : ∃ t1, t1 = wd ++ [32] := ⟨_, rfl⟩
      rw [← ht1] at hok
      obtain ⟨tx, htx⟩ : ∃ tx, tx = t1 ++ mo := ⟨_, rfl⟩
      rw [← htx] at hok
      have hcat2 : B wd ++ ⟨#[32]⟩ = B t1 := by rw [ht1, ← B_append]; rfl
      have hcat3 : B t1 ++ B mo = B tx := by rw [htx, B_append]
      have hs4 : (B t1).size = wd.length + 1 := by rw [B_size, ht1]; simp
      have hs5 : (B tx).size ≤ 18 := by
        rw [B_size, htx, List.length_append, ← B_size t1, ← B_size mo, hs4, hs3]; omega
      have hsz1 : (ByteArray.mk #[32]).size = 1 := rfl
      cases hsc : scanM tx with
      | size => rw [hsc] at hok; cases hok
      | lex a => rw [hsc] at hok; cases hok
      | ok l =>
        rw [hsc] at hok
        match l, hok with
        | [a, b, d], hok =>
          simp only [Bool.and_eq_true, beq_iff_eq] at hok
          obtain ⟨⟨hka, hkb⟩, hbt⟩ := hok
          have CS := Lib.hid (fun w hg => scan_any (B tx) (by omega) w hg)
          have HSC := Lib.hid hsc
          have HG2 := Lib.hid (hg.below HB2.out)
          clear hsc ht1 htx hmw hno hud hk22 HK hg
          go_wp2_with fail
          refine (CS.out _ HG2.out).mono ?_
          rintro e w2 ⟨hr, hb3⟩
          rw [B_list, HSC.out] at hr
          obtain ⟨v, rfl, hown⟩ := hr
          obtain ⟨g, cap, rfl, hbg, hcap, hm, hc⟩ := own_cells hown (by simp)
          have c0 : w2.cell? ⟨g, 0, none⟩ = some (.int .i64 2) := by rw [hc 0 (by simp), show (flatT [a, b, d])[0]? = some (.int .i64 a.kind) from rfl, hka]; rfl
          have c6 : w2.cell? ⟨g, 6, none⟩ = some (.int .i64 1) := by rw [hc 6 (by simp), show (flatT [a, b, d])[6]? = some (.int .i64 b.kind) from rfl, hkb]; rfl
          have c7 : w2.cell? ⟨g, 7, none⟩ = some (.string (B mo)) := by rw [hc 7 (by simp), show (flatT [a, b, d])[7]? = some (.string (B b.text)) from rfl, hbt, HM.out]
          have hlt2 := World.block_lt_of_cell? w2 _ c0
          have hbb := HB2.out.trans (hb3.mono HB2.out.size)
          have HBB := Lib.hid hbb
          have hsz2 := hbb.size
          clear hown hc hb3 hbb hbt hka hkb
          go_wp2
          go_ret
          exact ⟨rfl, HBB.out.alloc hsz2 _⟩
end Go.Proofs.YtamimaoaafapbaaDoor
