import Derived.Test.YtoajcggiccfaiaaDoorCtCRD
import Derived.Test.YtoajcggiccfaiaaDoorCtCU
namespace Go.Proofs.YtoajcggiccfaiaaDoor
open Go Go.RowKit
set_option linter.unusedVariables false
set_option linter.unusedSimpArgs false

set_option maxRecDepth 100000 in
set_option maxHeartbeats 16000000 in
theorem build_any (a0 : Option Addr) (len0 cap0 : Nat) (hlen : len0 ≤ 9223372036854775807) (w : World) (hin : RecsIn w a0 len0) :
    Calls Tryd.prog 6 #[.slice a0 len0 cap0] w (BuildRes w.heap.size w) := by
  have HIN := Lib.hid hin
  clear hin
  obtain ⟨s0, hs1, hs2, hs3, hs4⟩ := info_parts infoStr
  obtain ⟨y0, hy1, hy2, hy3, hy4⟩ := info_parts infoTyp
  obtain ⟨f0, hf1, hf2, hf3, hf4⟩ := info_parts infoFld
  have S1 := Lib.hid hs1
  have S2 := Lib.hid hs2
  have S3 := Lib.hid hs3
  have S4 := Lib.hid hs4
  have Y1 := Lib.hid hy1
  have Y2 := Lib.hid hy2
  have Y3 := Lib.hid hy3
  have Y4 := Lib.hid hy4
  have F1 := Lib.hid hf1
  have F2 := Lib.hid hf2
  have F3 := Lib.hid hf3
  have F4 := Lib.hid hf4
  clear hs1 hs2 hs3 hs4 hy1 hy2 hy3 hy4 hf1 hf2 hf3 hf4
  by_cases h30 : 30 < len0
  · go_enter Tryd.func6, Tryd.ntmps6
    go_wp2_with fail
    refine bodyPost_ret (v := .tuple #[.pointer (some ⟨w.heap.size, 0, none⟩), .slice none 0 0, .bool false, .bool true]) ?_ rfl ⟨_, _, rfl, (Below.refl _ _).alloc (Nat.le_refl _) _, fun h => by cases h⟩
    simp [results, Tryd.results6, go_sem]
  · go_enter Tryd.func6, Tryd.ntmps6
    go_wp2_with fail
    generalize hW : w.alloc (.cells #[.slice none 0 0] 55) = W
    have hbW : Below w.heap.size w W := by rw [← hW]; exact (Below.refl _ _).alloc (Nat.le_refl _) _
    have hsW : W.heap.size = w.heap.size + 1 := by rw [← hW]; simp
    have hbu : Built W w.heap.size 0 (.slice none 0 0) := built_none (by rw [← hW]; simp) (by rw [← hW]; simp)
    have HBW := Lib.hid hbW
    have HSW := Lib.hid hsW
    have HBU := Lib.hid hbu
    clear hW hbW hsW hbu
    obtain ⟨tb, htb⟩ : ∃ tb, tb = w.heap.size := ⟨_, rfl⟩
    rw [← htb] at HSW HBU ⊢
    have HTB := Lib.hid htb
    clear htb
    go_loopw [30, 7] (fun s30 s7 wr => ∃ i n : Nat, s30 = .int .i64 i ∧ i ≤ len0 ∧ Below w.heap.size w wr ∧ tb < wr.heap.size ∧ Hid (Built wr tb n s7)) (fun s30 _ _ => len0 - (intOf s30).toNat)
    case atStart => exact ⟨0, 0, rfl, by omega, HBW.out, by have := HSW.out; omega, HBU⟩
    case round =>
      obtain ⟨i, n, rfl, hi, hb, htl, HB0⟩ := hrel
      obtain ⟨wr0, hwr0⟩ : ∃ wr0, wr0 = wr := ⟨_, rfl⟩
      rw [← hwr0] at hb htl HB0
      rw [← hwr0]
      clear hwr0
      have HBR := Lib.hid hb
      have HTL := Lib.hid htl
      by_cases hlt : i < len0
      · obtain ⟨va0, lb, lc, la, SN, CT, NM0, TY0, SZ, AL, FA, FN, FC, GP, ELP, RV, G, CC, ELR, rfl, hnil, hsizes, hboth⟩ := HB0.out
        have HSIZES := Lib.hid hsizes
        clear hsizes
        have HNIL := Lib.hid hnil
        have HBOTH := Lib.hid hboth
        obtain ⟨b, off, rfl, hcells⟩ : ∃ b off : Nat, a0 = some ⟨b, off, none⟩ ∧ ∀ i, i < len0 → ∃ (nm : ByteArray) (va : Option Addr) (vn vc : Nat) (sa : Option Addr) (sn sc : Nat), w.cell? ⟨b, off + i * 3, none⟩ = some (.string nm) ∧ w.cell? ⟨b, off + i * 3 + 1, none⟩ = some (.slice va vn vc) ∧ w.cell? ⟨b, off + i * 3 + 2, none⟩ = some (.slice sa sn sc) ∧ vn ≤ 9223372036854775807 ∧ sn ≤ 9223372036854775807 ∧ nm.size ≤ 1048576 ∧ NamesIn w va vn ∧ ShapesIn w sa sn := by
          rcases HIN.out with h | h
          · omega
          · exact h
        obtain ⟨nm, va, vn, vc, sa, sn, sc, c0, c1, c2, hvn, hsn, hnmz, hnames, hshapes⟩ := hcells i hlt
        have hbl := World.block_lt_of_cell? w _ c0
        simp at hbl
        have q0 : wr0.cell? ⟨b, off + i * 3, none⟩ = some (.string nm) := by rw [hb.cell (by exact hbl)]; exact c0
        have q1 : wr0.cell? ⟨b, off + i * 3 + 1, none⟩ = some (.slice va vn vc) := by rw [hb.cell (by exact hbl)]; exact c1
        have q2 : wr0.cell? ⟨b, off + i * 3 + 2, none⟩ = some (.slice sa sn sc) := by rw [hb.cell (by exact hbl)]; exact c2
        have HNM := Lib.hid (hnames.below hb)
        have HSH := Lib.hid (hshapes.below hb)
        have hil : (i : Int) < len0 := by omega
        clear hboth hnil hcells c0 c1 c2 hnames hshapes hb HB0
        by_cases h30s : 30 < sn
        · go_wp2_with fail
          refine bodyPost_ret (v := .tuple #[.pointer (some ⟨tb, 0, none⟩), .slice la n lc, .bool false, .bool true]) ?_ rfl ⟨_, _, by rw [HTB.out], ?_, fun h => by cases h⟩
          · simp [results, Tryd.results6, go_sem]
          · exact (HBR.out.alloc HBR.out.size _).alloc (by have := HBR.out.size; simp; omega) _
        · go_wp2_with fail
          obtain ⟨R, hRd⟩ : ∃ R, R = wr0.heap.size + 1 := ⟨_, rfl⟩
          generalize hZ : (wr0.alloc (.cells #[.string nm, .slice va vn vc, .slice sa sn sc] 63)).alloc (.cells #[.string nm, .slice none 0 0, .slice none 0 0] 65) = Z
          have hZb : Below wr0.heap.size wr0 Z := by rw [← hZ]; exact ((Below.refl _ _).alloc (Nat.le_refl _) _).alloc (by simp) _
          have hZs : Z.heap.size = R + 1 := by rw [← hZ, hRd]; simp
          have hZp : RowSt Z R nm (.slice none 0 0) (.slice none 0 0) (.slice none 0 0) 0 (.slice none 0 0) 0 (.slice none 0 0) 0 0 (fun _ => ⟨#[]⟩) (fun _ => .void) (fun _ => none) := by
            rw [← hZ, hRd]
            refine ⟨by simp, by simp, by simp, by simp, by simp, World.ownsRow_nil _ _ _ _, World.ownsRow_nil _ _ _ _, World.ownsRow_nil _ _ _ _, fun k hk => by omega⟩
          have x0 : Z.cell? ⟨wr0.heap.size, 0, none⟩ = some (.string nm) := by rw [← hZ]; simp
          have x1 : Z.cell? ⟨wr0.heap.size, 1, none⟩ = some (.slice va vn vc) := by rw [← hZ]; simp
          have x2 : Z.cell? ⟨wr0.heap.size, 2, none⟩ = some (.slice sa sn sc) := by rw [← hZ]; simp
          obtain ⟨X, hX⟩ : ∃ X, X = wr0.heap.size := ⟨_, rfl⟩
          rw [show wr0.heap.size + 1 = R from hRd.symm]
          rw [← hX] at x0 x1 x2 hRd ⊢
          have HXD := Lib.hid hX
          have HX0 := Lib.hid x0
          have HX1 := Lib.hid x1
          have HX2 := Lib.hid x2
          have HZB := Lib.hid hZb
          have HZS := Lib.hid hZs
          have HZP := Lib.hid hZp
          have hXR : X < R := by omega
          have HRD := Lib.hid hRd
          clear hZ hZb hZs hZp hX hRd q0 q1 q2 x0 x1 x2
          have x2 := HX2.out
          have HCELL : Hid (∀ wx : World, Below R Z wx → wx.cell? ⟨X, 0, none⟩ = some (.string nm) ∧ wx.cell? ⟨X, 1, none⟩ = some (.slice va vn vc) ∧ wx.cell? ⟨X, 2, none⟩ = some (.slice sa sn sc)) := Lib.hid (fun wx hx =>
            ⟨by rw [hx.cell (by exact hXR)]; exact HX0.out, by rw [hx.cell (by exact hXR)]; exact HX1.out, by rw [hx.cell (by exact hXR)]; exact HX2.out⟩)
          have HWR : Hid (∀ wx : World, Below R Z wx → Below wr0.heap.size wr0 wx) := Lib.hid (fun wx hx => HZB.out.trans (hx.mono (by have := HXD.out; omega)))
          go_loopw [46, 10] (fun s46 s10 wq => ∃ (k : Nat) (vF : Value), s46 = .int .i64 k ∧ vF = s10 ∧ k ≤ sn ∧ Hid (RowEnd Z R k nm vF k wq)) (fun s46 _ _ => sn - (intOf s46).toNat)
          case atStart => exact ⟨0, _, rfl, rfl, by omega, Lib.hid ⟨_, _, _, _, _, HZP.out, fun j hj => by omega, Below.refl _ _, by have := HZS.out; omega, fun _ => ⟨rfl, rfl, rfl⟩⟩⟩
          case round =>
            obtain ⟨k, vF, rfl, rfl, hk, HE⟩ := hrel
            obtain ⟨vN, vT, NM, TY, EL, hrow, hoks, hbq, hRq, hk0⟩ := HE.out
            have HK0 := Lib.hid hk0
            clear hk0
            obtain ⟨w2, hw2⟩ : ∃ w2, w2 = wr := ⟨_, rfl⟩
            rw [← hw2] at hrow hbq hRq
            rw [← hw2]
            clear hw2 HE
            have HROW := Lib.hid hrow
            have HOKS := Lib.hid hoks
            have HBQ := Lib.hid hbq
            have HW2 := Lib.hid (HWR.out w2 hbq)
            obtain ⟨x0, x1, x2⟩ := HCELL.out w2 hbq
            clear hrow hoks hbq
            by_cases hlt2 : k < sn
            · obtain ⟨bs, offs, rfl, hsc⟩ : ∃ b off : Nat, sa = some ⟨b, off, none⟩ ∧ ∀ i, i < sn → ∃ (k : Int) (sa : Option Addr) (sl sc : Nat), wr0.cell? ⟨b, off + i * 2, none⟩ = some (.int .i64 k) ∧ wr0.cell? ⟨b, off + i * 2 + 1, none⟩ = some (.slice sa sl sc) ∧ sl ≤ 9223372036854775807 ∧ Steps wr0 sa sl ∧ (0 < sl → ∀ x, sa = some x → x.block < wr0.heap.size) := by
                rcases HSH.out with h | h
                · omega
                · exact h
              obtain ⟨sv, ta, tl, tc, e0, e1, htl, hst, hbnd⟩ := hsc k hlt2
              have hbs := World.block_lt_of_cell? _ _ e0
              simp at hbs
              have p0 : w2.cell? ⟨bs, offs + k * 2, none⟩ = some (.int .i64 sv) := by rw [HW2.out.cell (by exact hbs)]; exact e0
              have p1 : w2.cell? ⟨bs, offs + k * 2 + 1, none⟩ = some (.slice ta tl tc) := by rw [HW2.out.cell (by exact hbs)]; exact e1
              have hst2 := hst.below hbnd HW2.out
              have hbnd2 : 0 < tl → ∀ x, ta = some x → x.block < w2.heap.size := fun h x hx => Nat.lt_of_lt_of_le (hbnd h x hx) HW2.out.size
              have HST := Lib.hid hst2
              have HBND := Lib.hid hbnd2
              have hkl : (k : Int) < sn := by omega
              clear hsc e0 e1 hst hbnd hst2 hbnd2 hbs
              go_wp2_with fail
              (with_reducible refine (type_ok sv ta tl tc htl _ (HST.out.below HBND.out ((Below.refl _ _).alloc (Nat.le_refl _) _)) (fun h x hx => Nat.lt_of_lt_of_le (HBND.out h x hx) (by simp))).mono ?_)
              rintro e w3 ⟨t, el, ok, rfl, hel, hb3, hok⟩
              have HEL := Lib.hid hel
              have HOK := Lib.hid hok
              have HB3 : Hid (Below w2.heap.size w2 w3) := Lib.hid (((Below.refl _ _).alloc (Nat.le_refl _) _).trans (hb3.mono (by simp)))
              have HB3S : Hid (w2.heap.size + 1 ≤ w3.heap.size) := Lib.hid (by have := hb3.size; simp at this; omega)
              have hbq3 : Below R Z w3 := HBQ.out.trans (HB3.out.mono (by omega))
              have HBQ3 := Lib.hid hbq3
              clear hel hok hb3 x0 x1 x2 p0 p1
              obtain ⟨x0, x1, x2⟩ := HCELL.out w3 hbq3
              unfold tyV
              cases ok
              · go_wp2_with fail
                refine bodyPost_ret (v := .tuple #[.pointer (some ⟨tb, 0, none⟩), .slice la n lc, .bool false, .bool true]) ?_ rfl ⟨_, _, by rw [HTB.out], ?_, fun h => by cases h⟩
                · simp [results, Tryd.results6, go_sem]
                · have hbb := HBR.out.trans ((HWR.out w3 HBQ3.out).mono HBR.out.size)
                  exact hbb.alloc hbb.size _
              · go_upto_region 16 with fail
                generalize hY : w3.alloc (.cells #[.int .i64 t.kind, .int .i64 t.size, .bool t.sg, .bool t.sc, .pointer el, .int .i64 t.len, .int .i64 t.num, .slice none 0 0, .pointer none] 34) = w4
                have y0c : w4.cell? ⟨w3.heap.size, 0, none⟩ = some (.int .i64 t.kind) := by rw [← hY]; simp
                have y1c : w4.cell? ⟨w3.heap.size, 1, none⟩ = some (.int .i64 t.size) := by rw [← hY]; simp
                have y2c : w4.cell? ⟨w3.heap.size, 2, none⟩ = some (.bool t.sg) := by rw [← hY]; simp
                have y3c : w4.cell? ⟨w3.heap.size, 3, none⟩ = some (.bool t.sc) := by rw [← hY]; simp
                have y4c : w4.cell? ⟨w3.heap.size, 4, none⟩ = some (.pointer el) := by rw [← hY]; simp
                have y5c : w4.cell? ⟨w3.heap.size, 5, none⟩ = some (.int .i64 t.len) := by rw [← hY]; simp
                have y6c : w4.cell? ⟨w3.heap.size, 6, none⟩ = some (.int .i64 t.num) := by rw [← hY]; simp
                have y7c : w4.cell? ⟨w3.heap.size, 7, none⟩ = some (.slice none 0 0) := by rw [← hY]; simp
                have y8c : w4.cell? ⟨w3.heap.size, 8, none⟩ = some (.pointer none) := by rw [← hY]; simp
                have x1' : w4.cell? ⟨X, 1, none⟩ = some (.slice va vn vc) := by rw [← hY]; rw [((Below.refl w3.heap.size w3).alloc (Nat.le_refl _) _).cell (by have := HBQ3.out.size; have := HZS.out; simp; omega)]; exact x1
                clear x0 x1 x2
                have hw4 : Below wr0.heap.size wr0 w4 := (HWR.out w3 hbq3).trans ((by rw [← hY]; exact (Below.refl _ _).alloc (Nat.le_refl _) _ : Below w3.heap.size w3 w4).mono (HWR.out w3 hbq3).size)
                have HNM4 := Lib.hid (HNM.out.below hw4)
                have hYH := Lib.hid hY
                clear hbq3 hw4 hY
                go_upto_if 64 with fail
                go_cut [16] (fun s16 wx => w4 = wx ∧ ∃ s : ByteArray, s16 = .string s)
                case first =>
                  by_cases hkn : k < vn
                  · obtain ⟨nb, no, hva, hns⟩ : ∃ b off : Nat, va = some ⟨b, off, none⟩ ∧ ∀ i, i < vn → ∃ s : ByteArray, w4.cell? ⟨b, off + i, none⟩ = some (.string s) := by
                      rcases HNM4.out with h | h
                      · omega
                      · exact h
                    subst hva
                    obtain ⟨s, hsn⟩ := hns k hkn
                    have hknl : (k : Int) < vn := by omega
                    clear hns
                    go_wp2_with fail
                    go_meet
                    exact ⟨rfl, s, rfl⟩
                  · go_wp2_with fail
                    go_meet
                    exact ⟨rfl, _, rfl⟩
                case rest =>
                  obtain ⟨rfl, s, rfl⟩ := hcut
                  have hY := hYH.out
                  clear x1'
                  go_upto_region 21 with fail
                  have hb4 : Below w3.heap.size w3 w4 := by rw [← hY]; exact (Below.refl _ _).alloc (Nat.le_refl _) _
                  have hs4 : w4.heap.size = w3.heap.size + 1 := by rw [← hY]; simp
                  have hb24 : Below w2.heap.size w2 w4 := HB3.out.trans (hb4.mono (by have := HB3S.out; omega))
                  have HB24 := Lib.hid hb24
                  have h23 := HB3S.out
                  have hr4 := (HROW.out.below hb24 hRq).next s t el (by
                    have hr := HROW.out
                    have hN := hr.n.lt
                    have hT := hr.t.lt
                    have hF := hr.f.lt
                    refine ElIn.keep (P := fun b => w2.heap.size + 1 ≤ b ∧ b < w3.heap.size) (fun b hb o => hb4.cell (p := ⟨b, o, none⟩) hb.2) (fun b hb => ⟨by omega, by omega, fun e => ?_, fun e => ?_, fun e => ?_⟩) (ElIn.of (fun b h1 h2 => ⟨by simp at h1; omega, h2⟩) HEL.out)
                    · have := (hN b e).2; omega
                    · have := (hT b e).2; omega
                    · have := (hF b e).2; omega)
                  have HR4 := Lib.hid hr4
                  have HS4 := Lib.hid hs4
                  have hfl := hr4.f.lt
                  have HFL := Lib.hid (show ∀ q, vF.ownBlock = some q → q < w2.heap.size from fun q hq => (HROW.out.f.lt q hq).2)
                  clear hb4 hb24 hr4 hY hfl hs4
                  go_wp2_with (at_builtin; go_must (refine wpList_append_lies _ rfl _ _ 50 rfl (R + 1) 45 f0 fld0 11 104 Tryd.underlying50 F1.out F2.out F3.out F4.out rfl (by omega) vF k (cellsT (upd NM k s) (upd TY k t) (upd EL k el) (fun _ => 0) k) rfl (ownsRow_below HR4.out.f ((Below.refl _ _).alloc (Nat.le_refl _) _)) ⟨w4.heap.size, 0, none⟩ 1 1 [.string s, .int .i64 t.kind, .int .i64 t.size, .bool t.sg, .bool t.sc, .pointer el, .int .i64 t.len, .int .i64 t.num, .slice none 0 0, .pointer none, .int .i64 0] rfl rfl ?c1 ?c2 (by omega) ?c3 ?c4 ?c5 (w4.heap.size + 1) ?c6 ?c7))
                  case c1 => exact World.news_of_block (cs := #[.string s, .int .i64 t.kind, .int .i64 t.size, .bool t.sg, .bool t.sc, .pointer el, .int .i64 t.len, .int .i64 t.num, .slice none 0 0, .pointer none, .int .i64 0]) (t := 45) (fr := (0, 0)) (heap_alloc_new w4 _)
                  case c2 => simp [Value.oneCell']
                  case c3 => unfold maxLen; omega
                  case c4 => omega
                  case c5 => have := HS4.out; simp; omega
                  case c6 => simp
                  case c7 =>
                    intro gF cF w5 hown hgrow hat hlt9
                    have hs4 := HS4.out
                    have hbA : Below w4.heap.size w4 (w4.alloc (.cells #[.string s, .int .i64 t.kind, .int .i64 t.size, .bool t.sg, .bool t.sc, .pointer el, .int .i64 t.len, .int .i64 t.num, .slice none 0 0, .pointer none, .int .i64 0] 45)) := (Below.refl _ _).alloc (Nat.le_refl _) _
                    have hs5 : w4.heap.size + 1 ≤ w5.heap.size := by have := hgrow.size; simp at this; omega
                    have HS5 := Lib.hid (HR4.out.addF (by omega) hbA hgrow (by simpa using hat) (by rw [cellsT]; simp only [upd_at]; exact hown))
                    have HB5 : Hid (Below R w4 w5) := Lib.hid ((hbA.mono (by omega)).grown hgrow (by simp; omega) (fun q hq => by have := (HR4.out.f.lt q hq).1; omega))
                    have HB45 := Lib.hid (show ∀ b, b < w4.heap.size → vF.ownBlock ≠ some b → ∀ o, w5.cell? ⟨b, o, none⟩ = w4.cell? ⟨b, o, none⟩ from fun b hb hv o => by rw [hgrow.cell_far _ (by simp; omega) (fun e => hv e.symm)]; exact hbA.cell (p := ⟨b, o, none⟩) hb)
                    have hvy : vF.ownBlock ≠ some w3.heap.size := fun e => by have := HFL.out _ e; omega
                    have hy0 : w5.cell? ⟨w3.heap.size, 0, none⟩ = some (.int .i64 t.kind) := by rw [HB45.out _ (by omega) hvy]; exact y0c
                    have hy1 : w5.cell? ⟨w3.heap.size, 1, none⟩ = some (.int .i64 t.size) := by rw [HB45.out _ (by omega) hvy]; exact y1c
                    have hy2 : w5.cell? ⟨w3.heap.size, 2, none⟩ = some (.bool t.sg) := by rw [HB45.out _ (by omega) hvy]; exact y2c
                    have hy3 : w5.cell? ⟨w3.heap.size, 3, none⟩ = some (.bool t.sc) := by rw [HB45.out _ (by omega) hvy]; exact y3c
                    have hy4 : w5.cell? ⟨w3.heap.size, 4, none⟩ = some (.pointer el) := by rw [HB45.out _ (by omega) hvy]; exact y4c
                    have hy5 : w5.cell? ⟨w3.heap.size, 5, none⟩ = some (.int .i64 t.len) := by rw [HB45.out _ (by omega) hvy]; exact y5c
                    have hy6 : w5.cell? ⟨w3.heap.size, 6, none⟩ = some (.int .i64 t.num) := by rw [HB45.out _ (by omega) hvy]; exact y6c
                    have hy7 : w5.cell? ⟨w3.heap.size, 7, none⟩ = some (.slice none 0 0) := by rw [HB45.out _ (by omega) hvy]; exact y7c
                    have hy8 : w5.cell? ⟨w3.heap.size, 8, none⟩ = some (.pointer none) := by rw [HB45.out _ (by omega) hvy]; exact y8c
                    clear hown hgrow hat hlt9 hbA hvy y0c y1c y2c y3c y4c y5c y6c y7c y8c
                    have r0 := HS5.out.c0
                    have r1 := HS5.out.c1
                    have r2 := HS5.out.c2
                    have rf1 := HS5.out.f1
                    have rf2 := HS5.out.f2
                    have hR5 : R < w5.heap.size := by omega
                    have h35 : w3.heap.size < w5.heap.size := by omega
                    have hRy1 : R ≠ w3.heap.size := by omega
                    have hRy2 : w3.heap.size ≠ R := by omega
                    have HVN := Lib.hid (show ∀ q, vN.ownBlock = some q → q < w2.heap.size from fun q hq => (HROW.out.n.lt q hq).2)
                    have HVT := Lib.hid (show ∀ q, vT.ownBlock = some q → q < w2.heap.size from fun q hq => (HROW.out.t.lt q hq).2)
                    have tok1 : True := trivial
                    go_upto_region 22 with fail
                    have BO : Hid (Below w5.heap.size w5 (World.drew w5)) := Lib.hid ((Below.refl _ _).drew)
                    have SYO : Hid ((World.drew w5).cell? ⟨w3.heap.size, 0, none⟩ = some (.int .i64 t.kind) ∧ (World.drew w5).cell? ⟨w3.heap.size, 1, none⟩ = some (.int .i64 t.size) ∧ (World.drew w5).cell? ⟨w3.heap.size, 2, none⟩ = some (.bool t.sg) ∧ (World.drew w5).cell? ⟨w3.heap.size, 3, none⟩ = some (.bool t.sc) ∧ (World.drew w5).cell? ⟨w3.heap.size, 4, none⟩ = some (.pointer el) ∧ (World.drew w5).cell? ⟨w3.heap.size, 5, none⟩ = some (.int .i64 t.len) ∧ (World.drew w5).cell? ⟨w3.heap.size, 6, none⟩ = some (.int .i64 t.num) ∧ (World.drew w5).cell? ⟨w3.heap.size, 7, none⟩ = some (.slice none 0 0) ∧ (World.drew w5).cell? ⟨w3.heap.size, 8, none⟩ = some (.pointer none)) := Lib.hid ⟨by rw [BO.out.cell (by exact h35)]; exact hy0, by rw [BO.out.cell (by exact h35)]; exact hy1, by rw [BO.out.cell (by exact h35)]; exact hy2, by rw [BO.out.cell (by exact h35)]; exact hy3, by rw [BO.out.cell (by exact h35)]; exact hy4, by rw [BO.out.cell (by exact h35)]; exact hy5, by rw [BO.out.cell (by exact h35)]; exact hy6, by rw [BO.out.cell (by exact h35)]; exact hy7, by rw [BO.out.cell (by exact h35)]; exact hy8⟩
                    have SRO : Hid ((World.drew w5).cell? ⟨R, 1, none⟩ = some vN ∧ (World.drew w5).cell? ⟨R, 2, none⟩ = some vT) := Lib.hid ⟨by rw [BO.out.cell (by exact hR5)]; exact r1, by rw [BO.out.cell (by exact hR5)]; exact r2⟩
                    have BN : Hid (Below w5.heap.size w5 (World.drew (World.alloc w5 (.cells #[.string s] 9)))) := Lib.hid (((Below.refl _ _).alloc (Nat.le_refl _) _).drew)
                    have SYN : Hid ((World.drew (World.alloc w5 (.cells #[.string s] 9))).cell? ⟨w3.heap.size, 0, none⟩ = some (.int .i64 t.kind) ∧ (World.drew (World.alloc w5 (.cells #[.string s] 9))).cell? ⟨w3.heap.size, 1, none⟩ = some (.int .i64 t.size) ∧ (World.drew (World.alloc w5 (.cells #[.string s] 9))).cell? ⟨w3.heap.size, 2, none⟩ = some (.bool t.sg) ∧ (World.drew (World.alloc w5 (.cells #[.string s] 9))).cell? ⟨w3.heap.size, 3, none⟩ = some (.bool t.sc) ∧ (World.drew (World.alloc w5 (.cells #[.string s] 9))).cell? ⟨w3.heap.size, 4, none⟩ = some (.pointer el) ∧ (World.drew (World.alloc w5 (.cells #[.string s] 9))).cell? ⟨w3.heap.size, 5, none⟩ = some (.int .i64 t.len) ∧ (World.drew (World.alloc w5 (.cells #[.string s] 9))).cell? ⟨w3.heap.size, 6, none⟩ = some (.int .i64 t.num) ∧ (World.drew (World.alloc w5 (.cells #[.string s] 9))).cell? ⟨w3.heap.size, 7, none⟩ = some (.slice none 0 0) ∧ (World.drew (World.alloc w5 (.cells #[.string s] 9))).cell? ⟨w3.heap.size, 8, none⟩ = some (.pointer none)) := Lib.hid ⟨by rw [BN.out.cell (by exact h35)]; exact hy0, by rw [BN.out.cell (by exact h35)]; exact hy1, by rw [BN.out.cell (by exact h35)]; exact hy2, by rw [BN.out.cell (by exact h35)]; exact hy3, by rw [BN.out.cell (by exact h35)]; exact hy4, by rw [BN.out.cell (by exact h35)]; exact hy5, by rw [BN.out.cell (by exact h35)]; exact hy6, by rw [BN.out.cell (by exact h35)]; exact hy7, by rw [BN.out.cell (by exact h35)]; exact hy8⟩
                    have SRN : Hid ((World.drew (World.alloc w5 (.cells #[.string s] 9))).cell? ⟨R, 1, none⟩ = some vN ∧ (World.drew (World.alloc w5 (.cells #[.string s] 9))).cell? ⟨R, 2, none⟩ = some vT) := Lib.hid ⟨by rw [BN.out.cell (by exact hR5)]; exact r1, by rw [BN.out.cell (by exact hR5)]; exact r2⟩
                    have ZN : Hid ((World.drew (World.alloc w5 (.cells #[.string s] 9))).heap.size = w5.heap.size + 1) := Lib.hid (by simp)
                    have YBN : Hid (w3.heap.size < (World.drew (World.alloc w5 (.cells #[.string s] 9))).heap.size) := Lib.hid (by have := ZN.out; omega)
                    have RBN : Hid (R < (World.drew (World.alloc w5 (.cells #[.string s] 9))).heap.size) := Lib.hid (by have := ZN.out; omega)
                    have L0N : Hid (w5.heap.size < (World.drew (World.alloc w5 (.cells #[.string s] 9))).heap.size) := Lib.hid (by have := ZN.out; omega)
                    have BT : Hid (Below w5.heap.size w5 (World.drew (World.alloc w5 (.cells #[.int .i64 t.kind, .int .i64 t.size, .bool t.sg, .bool t.sc, .pointer el, .int .i64 t.len, .int .i64 t.num, .slice none 0 0, .pointer none] 34)))) := Lib.hid (((Below.refl _ _).alloc (Nat.le_refl _) _).drew)
                    have SYT : Hid ((World.drew (World.alloc w5 (.cells #[.int .i64 t.kind, .int .i64 t.size, .bool t.sg, .bool t.sc, .pointer el, .int .i64 t.len, .int .i64 t.num, .slice none 0 0, .pointer none] 34))).cell? ⟨w3.heap.size, 0, none⟩ = some (.int .i64 t.kind) ∧ (World.drew (World.alloc w5 (.cells #[.int .i64 t.kind, .int .i64 t.size, .bool t.sg, .bool t.sc, .pointer el, .int .i64 t.len, .int .i64 t.num, .slice none 0 0, .pointer none] 34))).cell? ⟨w3.heap.size, 1, none⟩ = some (.int .i64 t.size) ∧ (World.drew (World.alloc w5 (.cells #[.int .i64 t.kind, .int .i64 t.size, .bool t.sg, .bool t.sc, .pointer el, .int .i64 t.len, .int .i64 t.num, .slice none 0 0, .pointer none] 34))).cell? ⟨w3.heap.size, 2, none⟩ = some (.bool t.sg) ∧ (World.drew (World.alloc w5 (.cells #[.int .i64 t.kind, .int .i64 t.size, .bool t.sg, .bool t.sc, .pointer el, .int .i64 t.len, .int .i64 t.num, .slice none 0 0, .pointer none] 34))).cell? ⟨w3.heap.size, 3, none⟩ = some (.bool t.sc) ∧ (World.drew (World.alloc w5 (.cells #[.int .i64 t.kind, .int .i64 t.size, .bool t.sg, .bool t.sc, .pointer el, .int .i64 t.len, .int .i64 t.num, .slice none 0 0, .pointer none] 34))).cell? ⟨w3.heap.size, 4, none⟩ = some (.pointer el) ∧ (World.drew (World.alloc w5 (.cells #[.int .i64 t.kind, .int .i64 t.size, .bool t.sg, .bool t.sc, .pointer el, .int .i64 t.len, .int .i64 t.num, .slice none 0 0, .pointer none] 34))).cell? ⟨w3.heap.size, 5, none⟩ = some (.int .i64 t.len) ∧ (World.drew (World.alloc w5 (.cells #[.int .i64 t.kind, .int .i64 t.size, .bool t.sg, .bool t.sc, .pointer el, .int .i64 t.len, .int .i64 t.num, .slice none 0 0, .pointer none] 34))).cell? ⟨w3.heap.size, 6, none⟩ = some (.int .i64 t.num) ∧ (World.drew (World.alloc w5 (.cells #[.int .i64 t.kind, .int .i64 t.size, .bool t.sg, .bool t.sc, .pointer el, .int .i64 t.len, .int .i64 t.num, .slice none 0 0, .pointer none] 34))).cell? ⟨w3.heap.size, 7, none⟩ = some (.slice none 0 0) ∧ (World.drew (World.alloc w5 (.cells #[.int .i64 t.kind, .int .i64 t.size, .bool t.sg, .bool t.sc, .pointer el, .int .i64 t.len, .int .i64 t.num, .slice none 0 0, .pointer none] 34))).cell? ⟨w3.heap.size, 8, none⟩ = some (.pointer none)) := Lib.hid ⟨by rw [BT.out.cell (by exact h35)]; exact hy0, by rw [BT.out.cell (by exact h35)]; exact hy1, by rw [BT.out.cell (by exact h35)]; exact hy2, by rw [BT.out.cell (by exact h35)]; exact hy3, by rw [BT.out.cell (by exact h35)]; exact hy4, by rw [BT.out.cell (by exact h35)]; exact hy5, by rw [BT.out.cell (by exact h35)]; exact hy6, by rw [BT.out.cell (by exact h35)]; exact hy7, by rw [BT.out.cell (by exact h35)]; exact hy8⟩
                    have SRT : Hid ((World.drew (World.alloc w5 (.cells #[.int .i64 t.kind, .int .i64 t.size, .bool t.sg, .bool t.sc, .pointer el, .int .i64 t.len, .int .i64 t.num, .slice none 0 0, .pointer none] 34))).cell? ⟨R, 1, none⟩ = some vN ∧ (World.drew (World.alloc w5 (.cells #[.int .i64 t.kind, .int .i64 t.size, .bool t.sg, .bool t.sc, .pointer el, .int .i64 t.len, .int .i64 t.num, .slice none 0 0, .pointer none] 34))).cell? ⟨R, 2, none⟩ = some vT) := Lib.hid ⟨by rw [BT.out.cell (by exact hR5)]; exact r1, by rw [BT.out.cell (by exact hR5)]; exact r2⟩
                    have ZT : Hid ((World.drew (World.alloc w5 (.cells #[.int .i64 t.kind, .int .i64 t.size, .bool t.sg, .bool t.sc, .pointer el, .int .i64 t.len, .int .i64 t.num, .slice none 0 0, .pointer none] 34))).heap.size = w5.heap.size + 1) := Lib.hid (by simp)
                    have YBT : Hid (w3.heap.size < (World.drew (World.alloc w5 (.cells #[.int .i64 t.kind, .int .i64 t.size, .bool t.sg, .bool t.sc, .pointer el, .int .i64 t.len, .int .i64 t.num, .slice none 0 0, .pointer none] 34))).heap.size) := Lib.hid (by have := ZT.out; omega)
                    have RBT : Hid (R < (World.drew (World.alloc w5 (.cells #[.int .i64 t.kind, .int .i64 t.size, .bool t.sg, .bool t.sc, .pointer el, .int .i64 t.len, .int .i64 t.num, .slice none 0 0, .pointer none] 34))).heap.size) := Lib.hid (by have := ZT.out; omega)
                    have L0T : Hid (w5.heap.size < (World.drew (World.alloc w5 (.cells #[.int .i64 t.kind, .int .i64 t.size, .bool t.sg, .bool t.sc, .pointer el, .int .i64 t.len, .int .i64 t.num, .slice none 0 0, .pointer none] 34))).heap.size) := Lib.hid (by have := ZT.out; omega)
                    have BNT : Hid (Below w5.heap.size w5 (World.drew (World.alloc (World.alloc w5 (.cells #[.string s] 9)) (.cells #[.int .i64 t.kind, .int .i64 t.size, .bool t.sg, .bool t.sc, .pointer el, .int .i64 t.len, .int .i64 t.num, .slice none 0 0, .pointer none] 34)))) := Lib.hid ((((Below.refl _ _).alloc (Nat.le_refl _) _).alloc (by simp) _).drew)
                    have SYNT : Hid ((World.drew (World.alloc (World.alloc w5 (.cells #[.string s] 9)) (.cells #[.int .i64 t.kind, .int .i64 t.size, .bool t.sg, .bool t.sc, .pointer el, .int .i64 t.len, .int .i64 t.num, .slice none 0 0, .pointer none] 34))).cell? ⟨w3.heap.size, 0, none⟩ = some (.int .i64 t.kind) ∧ (World.drew (World.alloc (World.alloc w5 (.cells #[.string s] 9)) (.cells #[.int .i64 t.kind, .int .i64 t.size, .bool t.sg, .bool t.sc, .pointer el, .int .i64 t.len, .int .i64 t.num, .slice none 0 0, .pointer none] 34))).cell? ⟨w3.heap.size, 1, none⟩ = some (.int .i64 t.size) ∧ (World.drew (World.alloc (World.alloc w5 (.cells #[.string s] 9)) (.cells #[.int .i64 t.kind, .int .i64 t.size, .bool t.sg, .bool t.sc, .pointer el, .int .i64 t.len, .int .i64 t.num, .slice none 0 0, .pointer none] 34))).cell? ⟨w3.heap.size, 2, none⟩ = some (.bool t.sg) ∧ (World.drew (World.alloc (World.alloc w5 (.cells #[.string s] 9)) (.cells #[.int .i64 t.kind, .int .i64 t.size, .bool t.sg, .bool t.sc, .pointer el, .int .i64 t.len, .int .i64 t.num, .slice none 0 0, .pointer none] 34))).cell? ⟨w3.heap.size, 3, none⟩ = some (.bool t.sc) ∧ (World.drew (World.alloc (World.alloc w5 (.cells #[.string s] 9)) (.cells #[.int .i64 t.kind, .int .i64 t.size, .bool t.sg, .bool t.sc, .pointer el, .int .i64 t.len, .int .i64 t.num, .slice none 0 0, .pointer none] 34))).cell? ⟨w3.heap.size, 4, none⟩ = some (.pointer el) ∧ (World.drew (World.alloc (World.alloc w5 (.cells #[.string s] 9)) (.cells #[.int .i64 t.kind, .int .i64 t.size, .bool t.sg, .bool t.sc, .pointer el, .int .i64 t.len, .int .i64 t.num, .slice none 0 0, .pointer none] 34))).cell? ⟨w3.heap.size, 5, none⟩ = some (.int .i64 t.len) ∧ (World.drew (World.alloc (World.alloc w5 (.cells #[.string s] 9)) (.cells #[.int .i64 t.kind, .int .i64 t.size, .bool t.sg, .bool t.sc, .pointer el, .int .i64 t.len, .int .i64 t.num, .slice none 0 0, .pointer none] 34))).cell? ⟨w3.heap.size, 6, none⟩ = some (.int .i64 t.num) ∧ (World.drew (World.alloc (World.alloc w5 (.cells #[.string s] 9)) (.cells #[.int .i64 t.kind, .int .i64 t.size, .bool t.sg, .bool t.sc, .pointer el, .int .i64 t.len, .int .i64 t.num, .slice none 0 0, .pointer none] 34))).cell? ⟨w3.heap.size, 7, none⟩ = some (.slice none 0 0) ∧ (World.drew (World.alloc (World.alloc w5 (.cells #[.string s] 9)) (.cells #[.int .i64 t.kind, .int .i64 t.size, .bool t.sg, .bool t.sc, .pointer el, .int .i64 t.len, .int .i64 t.num, .slice none 0 0, .pointer none] 34))).cell? ⟨w3.heap.size, 8, none⟩ = some (.pointer none)) := Lib.hid ⟨by rw [BNT.out.cell (by exact h35)]; exact hy0, by rw [BNT.out.cell (by exact h35)]; exact hy1, by rw [BNT.out.cell (by exact h35)]; exact hy2, by rw [BNT.out.cell (by exact h35)]; exact hy3, by rw [BNT.out.cell (by exact h35)]; exact hy4, by rw [BNT.out.cell (by exact h35)]; exact hy5, by rw [BNT.out.cell (by exact h35)]; exact hy6, by rw [BNT.out.cell (by exact h35)]; exact hy7, by rw [BNT.out.cell (by exact h35)]; exact hy8⟩
                    have SRNT : Hid ((World.drew (World.alloc (World.alloc w5 (.cells #[.string s] 9)) (.cells #[.int .i64 t.kind, .int .i64 t.size, .bool t.sg, .bool t.sc, .pointer el, .int .i64 t.len, .int .i64 t.num, .slice none 0 0, .pointer none] 34))).cell? ⟨R, 1, none⟩ = some vN ∧ (World.drew (World.alloc (World.alloc w5 (.cells #[.string s] 9)) (.cells #[.int .i64 t.kind, .int .i64 t.size, .bool t.sg, .bool t.sc, .pointer el, .int .i64 t.len, .int .i64 t.num, .slice none 0 0, .pointer none] 34))).cell? ⟨R, 2, none⟩ = some vT) := Lib.hid ⟨by rw [BNT.out.cell (by exact hR5)]; exact r1, by rw [BNT.out.cell (by exact hR5)]; exact r2⟩
                    have ZNT : Hid ((World.drew (World.alloc (World.alloc w5 (.cells #[.string s] 9)) (.cells #[.int .i64 t.kind, .int .i64 t.size, .bool t.sg, .bool t.sc, .pointer el, .int .i64 t.len, .int .i64 t.num, .slice none 0 0, .pointer none] 34))).heap.size = w5.heap.size + 2) := Lib.hid (by simp)
                    have YBNT : Hid (w3.heap.size < (World.drew (World.alloc (World.alloc w5 (.cells #[.string s] 9)) (.cells #[.int .i64 t.kind, .int .i64 t.size, .bool t.sg, .bool t.sc, .pointer el, .int .i64 t.len, .int .i64 t.num, .slice none 0 0, .pointer none] 34))).heap.size) := Lib.hid (by have := ZNT.out; omega)
                    have RBNT : Hid (R < (World.drew (World.alloc (World.alloc w5 (.cells #[.string s] 9)) (.cells #[.int .i64 t.kind, .int .i64 t.size, .bool t.sg, .bool t.sc, .pointer el, .int .i64 t.len, .int .i64 t.num, .slice none 0 0, .pointer none] 34))).heap.size) := Lib.hid (by have := ZNT.out; omega)
                    have L0NT : Hid (w5.heap.size < (World.drew (World.alloc (World.alloc w5 (.cells #[.string s] 9)) (.cells #[.int .i64 t.kind, .int .i64 t.size, .bool t.sg, .bool t.sc, .pointer el, .int .i64 t.len, .int .i64 t.num, .slice none 0 0, .pointer none] 34))).heap.size) := Lib.hid (by have := ZNT.out; omega)
                    have BTN : Hid (Below w5.heap.size w5 (World.drew (World.alloc (World.alloc w5 (.cells #[.int .i64 t.kind, .int .i64 t.size, .bool t.sg, .bool t.sc, .pointer el, .int .i64 t.len, .int .i64 t.num, .slice none 0 0, .pointer none] 34)) (.cells #[.string s] 9)))) := Lib.hid ((((Below.refl _ _).alloc (Nat.le_refl _) _).alloc (by simp) _).drew)
                    have SYTN : Hid ((World.drew (World.alloc (World.alloc w5 (.cells #[.int .i64 t.kind, .int .i64 t.size, .bool t.sg, .bool t.sc, .pointer el, .int .i64 t.len, .int .i64 t.num, .slice none 0 0, .pointer none] 34)) (.cells #[.string s] 9))).cell? ⟨w3.heap.size, 0, none⟩ = some (.int .i64 t.kind) ∧ (World.drew (World.alloc (World.alloc w5 (.cells #[.int .i64 t.kind, .int .i64 t.size, .bool t.sg, .bool t.sc, .pointer el, .int .i64 t.len, .int .i64 t.num, .slice none 0 0, .pointer none] 34)) (.cells #[.string s] 9))).cell? ⟨w3.heap.size, 1, none⟩ = some (.int .i64 t.size) ∧ (World.drew (World.alloc (World.alloc w5 (.cells #[.int .i64 t.kind, .int .i64 t.size, .bool t.sg, .bool t.sc, .pointer el, .int .i64 t.len, .int .i64 t.num, .slice none 0 0, .pointer none] 34)) (.cells #[.string s] 9))).cell? ⟨w3.heap.size, 2, none⟩ = some (.bool t.sg) ∧ (World.drew (World.alloc (World.alloc w5 (.cells #[.int .i64 t.kind, .int .i64 t.size, .bool t.sg, .bool t.sc, .pointer el, .int .i64 t.len, .int .i64 t.num, .slice none 0 0, .pointer none] 34)) (.cells #[.string s] 9))).cell? ⟨w3.heap.size, 3, none⟩ = some (.bool t.sc) ∧ (World.drew (World.alloc (World.alloc w5 (.cells #[.int .i64 t.kind, .int .i64 t.size, .bool t.sg, .bool t.sc, .pointer el, .int .i64 t.len, .int .i64 t.num, .slice none 0 0, .pointer none] 34)) (.cells #[.string s] 9))).cell? ⟨w3.heap.size, 4, none⟩ = some (.pointer el) ∧ (World.drew (World.alloc (World.alloc w5 (.cells #[.int .i64 t.kind, .int .i64 t.size, .bool t.sg, .bool t.sc, .pointer el, .int .i64 t.len, .int .i64 t.num, .slice none 0 0, .pointer none] 34)) (.cells #[.string s] 9))).cell? ⟨w3.heap.size, 5, none⟩ = some (.int .i64 t.len) ∧ (World.drew (World.alloc (World.alloc w5 (.cells #[.int .i64 t.kind, .int .i64 t.size, .bool t.sg, .bool t.sc, .pointer el, .int .i64 t.len, .int .i64 t.num, .slice none 0 0, .pointer none] 34)) (.cells #[.string s] 9))).cell? ⟨w3.heap.size, 6, none⟩ = some (.int .i64 t.num) ∧ (World.drew (World.alloc (World.alloc w5 (.cells #[.int .i64 t.kind, .int .i64 t.size, .bool t.sg, .bool t.sc, .pointer el, .int .i64 t.len, .int .i64 t.num, .slice none 0 0, .pointer none] 34)) (.cells #[.string s] 9))).cell? ⟨w3.heap.size, 7, none⟩ = some (.slice none 0 0) ∧ (World.drew (World.alloc (World.alloc w5 (.cells #[.int .i64 t.kind, .int .i64 t.size, .bool t.sg, .bool t.sc, .pointer el, .int .i64 t.len, .int .i64 t.num, .slice none 0 0, .pointer none] 34)) (.cells #[.string s] 9))).cell? ⟨w3.heap.size, 8, none⟩ = some (.pointer none)) := Lib.hid ⟨by rw [BTN.out.cell (by exact h35)]; exact hy0, by rw [BTN.out.cell (by exact h35)]; exact hy1, by rw [BTN.out.cell (by exact h35)]; exact hy2, by rw [BTN.out.cell (by exact h35)]; exact hy3, by rw [BTN.out.cell (by exact h35)]; exact hy4, by rw [BTN.out.cell (by exact h35)]; exact hy5, by rw [BTN.out.cell (by exact h35)]; exact hy6, by rw [BTN.out.cell (by exact h35)]; exact hy7, by rw [BTN.out.cell (by exact h35)]; exact hy8⟩
                    have SRTN : Hid ((World.drew (World.alloc (World.alloc w5 (.cells #[.int .i64 t.kind, .int .i64 t.size, .bool t.sg, .bool t.sc, .pointer el, .int .i64 t.len, .int .i64 t.num, .slice none 0 0, .pointer none] 34)) (.cells #[.string s] 9))).cell? ⟨R, 1, none⟩ = some vN ∧ (World.drew (World.alloc (World.alloc w5 (.cells #[.int .i64 t.kind, .int .i64 t.size, .bool t.sg, .bool t.sc, .pointer el, .int .i64 t.len, .int .i64 t.num, .slice none 0 0, .pointer none] 34)) (.cells #[.string s] 9))).cell? ⟨R, 2, none⟩ = some vT) := Lib.hid ⟨by rw [BTN.out.cell (by exact hR5)]; exact r1, by rw [BTN.out.cell (by exact hR5)]; exact r2⟩
                    have ZTN : Hid ((World.drew (World.alloc (World.alloc w5 (.cells #[.int .i64 t.kind, .int .i64 t.size, .bool t.sg, .bool t.sc, .pointer el, .int .i64 t.len, .int .i64 t.num, .slice none 0 0, .pointer none] 34)) (.cells #[.string s] 9))).heap.size = w5.heap.size + 2) := Lib.hid (by simp)
                    have YBTN : Hid (w3.heap.size < (World.drew (World.alloc (World.alloc w5 (.cells #[.int .i64 t.kind, .int .i64 t.size, .bool t.sg, .bool t.sc, .pointer el, .int .i64 t.len, .int .i64 t.num, .slice none 0 0, .pointer none] 34)) (.cells #[.string s] 9))).heap.size) := Lib.hid (by have := ZTN.out; omega)
                    have RBTN : Hid (R < (World.drew (World.alloc (World.alloc w5 (.cells #[.int .i64 t.kind, .int .i64 t.size, .bool t.sg, .bool t.sc, .pointer el, .int .i64 t.len, .int .i64 t.num, .slice none 0 0, .pointer none] 34)) (.cells #[.string s] 9))).heap.size) := Lib.hid (by have := ZTN.out; omega)
                    have L0TN : Hid (w5.heap.size < (World.drew (World.alloc (World.alloc w5 (.cells #[.int .i64 t.kind, .int .i64 t.size, .bool t.sg, .bool t.sc, .pointer el, .int .i64 t.len, .int .i64 t.num, .slice none 0 0, .pointer none] 34)) (.cells #[.string s] 9))).heap.size) := Lib.hid (by have := ZTN.out; omega)
                    have LNN : Hid ((World.drew (World.alloc w5 (.cells #[.string s] 9))).cell? ⟨w5.heap.size, 0, none⟩ = some (.string ((upd NM k s) k))) := Lib.hid (by rw [upd_at]; go_simp)
                    have LNNT : Hid ((World.drew (World.alloc (World.alloc w5 (.cells #[.string s] 9)) (.cells #[.int .i64 t.kind, .int .i64 t.size, .bool t.sg, .bool t.sc, .pointer el, .int .i64 t.len, .int .i64 t.num, .slice none 0 0, .pointer none] 34))).cell? ⟨w5.heap.size, 0, none⟩ = some (.string ((upd NM k s) k))) := Lib.hid (by rw [upd_at]; go_simp)
                    have LNTN : Hid ((World.drew (World.alloc (World.alloc w5 (.cells #[.int .i64 t.kind, .int .i64 t.size, .bool t.sg, .bool t.sc, .pointer el, .int .i64 t.len, .int .i64 t.num, .slice none 0 0, .pointer none] 34)) (.cells #[.string s] 9))).cell? ⟨w5.heap.size + 1, 0, none⟩ = some (.string ((upd NM k s) k))) := Lib.hid (by rw [upd_at]; go_simp)
                    have LTTN : Hid (Cells9 (World.drew (World.alloc (World.alloc w5 (.cells #[.int .i64 t.kind, .int .i64 t.size, .bool t.sg, .bool t.sc, .pointer el, .int .i64 t.len, .int .i64 t.num, .slice none 0 0, .pointer none] 34)) (.cells #[.string s] 9))) (w5.heap.size) 0 ((upd TY k t) k) ((upd EL k el) k)) := Lib.hid (by rw [upd_at, upd_at]; constructor <;> go_simp)
                    have LTNT : Hid (Cells9 (World.drew (World.alloc (World.alloc w5 (.cells #[.string s] 9)) (.cells #[.int .i64 t.kind, .int .i64 t.size, .bool t.sg, .bool t.sc, .pointer el, .int .i64 t.len, .int .i64 t.num, .slice none 0 0, .pointer none] 34))) (w5.heap.size + 1) 0 ((upd TY k t) k) ((upd EL k el) k)) := Lib.hid (by rw [upd_at, upd_at]; constructor <;> go_simp)
                    have L1NT : Hid (w5.heap.size + 1 < (World.drew (World.alloc (World.alloc w5 (.cells #[.string s] 9)) (.cells #[.int .i64 t.kind, .int .i64 t.size, .bool t.sg, .bool t.sc, .pointer el, .int .i64 t.len, .int .i64 t.num, .slice none 0 0, .pointer none] 34))).heap.size) := Lib.hid (by have := ZNT.out; omega)
                    have V0 : Hid (vN.ownBlock ≠ some w5.heap.size) := Lib.hid (fun e => by have := HVN.out _ e; omega)
                    have V1 : Hid (vN.ownBlock ≠ some (w5.heap.size + 1)) := Lib.hid (fun e => by have := HVN.out _ e; omega)
                    have hk1000 : k ≤ 1000 := by omega
                    have hvNY : vN.ownBlock ≠ some w3.heap.size := fun e => by have := HVN.out _ e; omega
                    have hvTY : vT.ownBlock ≠ some w3.heap.size := fun e => by have := HVT.out _ e; omega
                    refine wp_region_k (fun w' => w'.cell? ⟨w3.heap.size, 0, none⟩ = some (.int .i64 t.kind) ∧ w'.cell? ⟨w3.heap.size, 1, none⟩ = some (.int .i64 t.size) ∧ w'.cell? ⟨w3.heap.size, 2, none⟩ = some (.bool t.sg) ∧ w'.cell? ⟨w3.heap.size, 3, none⟩ = some (.bool t.sc) ∧ w'.cell? ⟨w3.heap.size, 4, none⟩ = some (.pointer el) ∧ w'.cell? ⟨w3.heap.size, 5, none⟩ = some (.int .i64 t.len) ∧ w'.cell? ⟨w3.heap.size, 6, none⟩ = some (.int .i64 t.num) ∧ w'.cell? ⟨w3.heap.size, 7, none⟩ = some (.slice none 0 0) ∧ w'.cell? ⟨w3.heap.size, 8, none⟩ = some (.pointer none)) (fun w' => w'.cell? ⟨R, 1, none⟩ = some vN ∧ w'.cell? ⟨R, 2, none⟩ = some vT) 11 (by kernel_rfl) SYO.out SRO.out (fun hHeld hHeld2 => ?_)
                    refine takeK1 (i := 0) (d := 76) (v := ?_) rfl rfl (by decide) (by kernel_rfl) (by kernel_rfl) (by kernel_rfl) (fun _ _ _ h => h) (Or.inl ⟨by rfl, ?_⟩) (by assumption) (fun _ => by assumption) ?_
                    rotate_left
                    · intro w hSw
                      (try dsimp only at hSw)
                      go_simp
                      (try with_reducible rfl)
                    (try simp only [Act.put, List.setIfInBounds_toArray, List.set_cons_zero, List.set_cons_succ])
                    refine takeK1 (i := 2) (d := 78) (v := ?_) rfl rfl (by decide) (by kernel_rfl) (by kernel_rfl) (by kernel_rfl) (fun _ _ _ h => h) (Or.inl ⟨by rfl, ?_⟩) (by assumption) (fun _ => by assumption) ?_
                    rotate_left
                    · intro w hSw
                      (try dsimp only at hSw)
                      go_simp
                      (try with_reducible rfl)
                    (try simp only [Act.put, List.setIfInBounds_toArray, List.set_cons_zero, List.set_cons_succ])
                    refine takeK1 (i := 5) (d := 81) (v := ?_) rfl rfl (by decide) (by kernel_rfl) (by kernel_rfl) (by kernel_rfl) (fun _ _ _ h => h) (Or.inl ⟨by rfl, ?_⟩) (by assumption) (fun _ => by assumption) ?_
                    rotate_left
                    · intro w hSw
                      (try dsimp only at hSw)
                      go_simp
                      (try with_reducible rfl)
                    (try simp only [Act.put, List.setIfInBounds_toArray, List.set_cons_zero, List.set_cons_succ])
                    refine takeK (i := 1) (d := 77) (v := ?_) rfl rfl rfl (by kernel_rfl) (by decide) (by kernel_rfl) (by kernel_rfl) (by kernel_rfl) (by kernel_rfl) (fun _ _ _ h => h) (Or.inl ⟨by rfl, ?_⟩) (by assumption) (by assumption) ?_
                    rotate_left
                    · intro w hSw
                      (try dsimp only at hSw)
                      go_simp
                      (try with_reducible rfl)
                    (try simp only [Act.put, List.setIfInBounds_toArray, List.set_cons_zero, List.set_cons_succ])
                    refine takeK (i := 6) (d := 82) (v := ?_) rfl rfl rfl (by kernel_rfl) (by decide) (by kernel_rfl) (by kernel_rfl) (by kernel_rfl) (by kernel_rfl) (fun _ _ _ h => h) (Or.inl ⟨by rfl, ?_⟩) (by assumption) (by assumption) ?_
                    rotate_left
                    · intro w hSw
                      (try dsimp only at hSw)
                      go_simp
                      (try with_reducible rfl)
                    (try simp only [Act.put, List.setIfInBounds_toArray, List.set_cons_zero, List.set_cons_succ])
                    refine takeK1 (i := 7) (d := 83) (v := ?_) rfl rfl (by decide) (by kernel_rfl) (by kernel_rfl) (by kernel_rfl) (fun _ _ _ h => h) (Or.inl ⟨by rfl, ?_⟩) (by assumption) (fun _ => by assumption) ?_
                    rotate_left
                    · intro w hSw
                      (try dsimp only at hSw)
                      go_simp
                      (try with_reducible rfl)
                    (try simp only [Act.put, List.setIfInBounds_toArray, List.set_cons_zero, List.set_cons_succ])
                    refine wpAnyK_ready (rs := [3, 8]) (by kernel_rfl) (by simp) ?_
                    refine AllReadyK.cons rfl (fun K hK => ?_) ?_
                    · go_simp
                      refine hK.out _ _ SYN.out SRN.out (fun hHeldN hHeldN2 => ?_)
                      clear hK K hHeld hHeld2
                      have hHeld := hHeldN
                      have hHeld2 := hHeldN2
                      clear hHeldN hHeldN2
                      (try simp only [Act.put, List.setIfInBounds_toArray, List.set_cons_zero, List.set_cons_succ])
                      refine wpAnyK_ready (rs := [4, 8]) (by kernel_rfl) (by simp) ?_
                      refine AllReadyK.cons rfl (fun K hK => ?_) ?_
                      · refine stepN (by rfl) _ _ (by rfl) HS5.out hR5 hk1000 (by with_reducible exact BN.out) ⟨w5.heap.size, 0, none⟩ (by rfl) (by rfl) (by with_reducible exact LNN.out) ?_
                        intro gN cN w6N hS6 hz6 hk6 hb6
                        have HSN := Lib.hid hS6
                        have HBB := Lib.hid hb6
                        have hR6 : R < w6N.heap.size := Nat.lt_of_lt_of_le RBN.out hz6
                        have hY6 : w3.heap.size < w6N.heap.size := Nat.lt_of_lt_of_le YBN.out hz6
                        have y0N : w6N.cell? ⟨w3.heap.size, 0, none⟩ = some (.int .i64 t.kind) := by rw [hk6 _ YBN.out hvNY, BN.out.cell (by exact h35)]; exact hy0
                        have y1N : w6N.cell? ⟨w3.heap.size, 1, none⟩ = some (.int .i64 t.size) := by rw [hk6 _ YBN.out hvNY, BN.out.cell (by exact h35)]; exact hy1
                        have y2N : w6N.cell? ⟨w3.heap.size, 2, none⟩ = some (.bool t.sg) := by rw [hk6 _ YBN.out hvNY, BN.out.cell (by exact h35)]; exact hy2
                        have y3N : w6N.cell? ⟨w3.heap.size, 3, none⟩ = some (.bool t.sc) := by rw [hk6 _ YBN.out hvNY, BN.out.cell (by exact h35)]; exact hy3
                        have y4N : w6N.cell? ⟨w3.heap.size, 4, none⟩ = some (.pointer el) := by rw [hk6 _ YBN.out hvNY, BN.out.cell (by exact h35)]; exact hy4
                        have y5N : w6N.cell? ⟨w3.heap.size, 5, none⟩ = some (.int .i64 t.len) := by rw [hk6 _ YBN.out hvNY, BN.out.cell (by exact h35)]; exact hy5
                        have y6N : w6N.cell? ⟨w3.heap.size, 6, none⟩ = some (.int .i64 t.num) := by rw [hk6 _ YBN.out hvNY, BN.out.cell (by exact h35)]; exact hy6
                        have y7N : w6N.cell? ⟨w3.heap.size, 7, none⟩ = some (.slice none 0 0) := by rw [hk6 _ YBN.out hvNY, BN.out.cell (by exact h35)]; exact hy7
                        have y8N : w6N.cell? ⟨w3.heap.size, 8, none⟩ = some (.pointer none) := by rw [hk6 _ YBN.out hvNY, BN.out.cell (by exact h35)]; exact hy8
                        refine hK.out _ _ ⟨y0N, y1N, y2N, y3N, y4N, y5N, y6N, y7N, y8N⟩ ⟨hS6.c1, hS6.c2⟩ (fun hHeldN hHeldN2 => ?_)
                        clear hK K hHeld hHeld2
                        have hHeld := hHeldN
                        have hHeld2 := hHeldN2
                        clear hHeldN hHeldN2
                        (try simp only [Act.put, List.setIfInBounds_toArray, List.set_cons_zero, List.set_cons_succ])
                        clear hS6 hz6 hk6 hb6
                        refine takeK1 (i := 10) (d := 86) (v := ?_) rfl rfl (by decide) (by kernel_rfl) (by kernel_rfl) (by kernel_rfl) (fun _ _ _ h => h) (Or.inl ⟨by rfl, ?_⟩) (by assumption) (fun _ => by assumption) ?_
                        rotate_left
                        · intro w hSw
                          (try dsimp only at hSw)
                          go_simp
                          (try with_reducible rfl)
                        (try simp only [Act.put, List.setIfInBounds_toArray, List.set_cons_zero, List.set_cons_succ])
                        refine wpAnyK_ready (rs := [8]) (by kernel_rfl) (by simp) ?_
                        refine AllReadyK.cons rfl (fun K hK => ?_) AllReadyK.nil
                        go_simp
                        refine hK.out _ _ ⟨by rw [((Below.refl w6N.heap.size w6N).alloc (Nat.le_refl _) _).cell (by exact hY6)]; exact y0N, by rw [((Below.refl w6N.heap.size w6N).alloc (Nat.le_refl _) _).cell (by exact hY6)]; exact y1N, by rw [((Below.refl w6N.heap.size w6N).alloc (Nat.le_refl _) _).cell (by exact hY6)]; exact y2N, by rw [((Below.refl w6N.heap.size w6N).alloc (Nat.le_refl _) _).cell (by exact hY6)]; exact y3N, by rw [((Below.refl w6N.heap.size w6N).alloc (Nat.le_refl _) _).cell (by exact hY6)]; exact y4N, by rw [((Below.refl w6N.heap.size w6N).alloc (Nat.le_refl _) _).cell (by exact hY6)]; exact y5N, by rw [((Below.refl w6N.heap.size w6N).alloc (Nat.le_refl _) _).cell (by exact hY6)]; exact y6N, by rw [((Below.refl w6N.heap.size w6N).alloc (Nat.le_refl _) _).cell (by exact hY6)]; exact y7N, by rw [((Below.refl w6N.heap.size w6N).alloc (Nat.le_refl _) _).cell (by exact hY6)]; exact y8N⟩ ⟨by rw [((Below.refl w6N.heap.size w6N).alloc (Nat.le_refl _) _).cell (by exact hR6)]; exact HSN.out.c1, by rw [((Below.refl w6N.heap.size w6N).alloc (Nat.le_refl _) _).cell (by exact hR6)]; exact HSN.out.c2⟩ (fun hHeldN hHeldN2 => ?_)
                        clear hK K hHeld hHeld2
                        have hHeld := hHeldN
                        have hHeld2 := hHeldN2
                        clear hHeldN hHeldN2
                        (try simp only [Act.put, List.setIfInBounds_toArray, List.set_cons_zero, List.set_cons_succ])
                        refine wpAnyK_ready (rs := [9]) (by kernel_rfl) (by simp) ?_
                        refine AllReadyK.cons rfl (fun K hK => ?_) AllReadyK.nil
                        have hsn := HSN.out
                        have hbb : Below w6N.heap.size w6N (World.alloc w6N (.cells #[.int .i64 t.kind, .int .i64 t.size, .bool t.sg, .bool t.sc, .pointer el, .int .i64 t.len, .int .i64 t.num, .slice none 0 0, .pointer none] 34)) := ((Below.refl _ _).alloc (Nat.le_refl _) _)
                        have hli : Cells9 (World.alloc w6N (.cells #[.int .i64 t.kind, .int .i64 t.size, .bool t.sg, .bool t.sc, .pointer el, .int .i64 t.len, .int .i64 t.num, .slice none 0 0, .pointer none] 34)) (w6N.heap.size) 0 ((upd TY k t) k) ((upd EL k el) k) := by rw [upd_at, upd_at]; constructor <;> simp
                        have hYW : w3.heap.size < (World.alloc w6N (.cells #[.int .i64 t.kind, .int .i64 t.size, .bool t.sg, .bool t.sc, .pointer el, .int .i64 t.len, .int .i64 t.num, .slice none 0 0, .pointer none] 34)).heap.size := Nat.lt_of_lt_of_le hY6 hbb.size
                        refine stepT (by rfl) _ _ (by rfl) hsn hR6 hk1000 (by with_reducible exact hbb) (w6N.heap.size) (by rfl) (by rfl) (by with_reducible exact hli) ?_
                        intro gT cT w7 hS7 hz7 hk7 hb7
                        have HS7 := Lib.hid hS7
                        have HB7 : Hid (Below R w5 w7) := Lib.hid (HBB.out.trans hb7)
                        have hR7 : R < w7.heap.size := Nat.lt_of_lt_of_le (Nat.lt_of_lt_of_le hR6 hbb.size) hz7
                        have y0z : w7.cell? ⟨w3.heap.size, 0, none⟩ = some (.int .i64 t.kind) := by rw [hk7 _ hYW hvTY, hbb.cell (by exact hY6)]; exact y0N
                        have y1z : w7.cell? ⟨w3.heap.size, 1, none⟩ = some (.int .i64 t.size) := by rw [hk7 _ hYW hvTY, hbb.cell (by exact hY6)]; exact y1N
                        have y2z : w7.cell? ⟨w3.heap.size, 2, none⟩ = some (.bool t.sg) := by rw [hk7 _ hYW hvTY, hbb.cell (by exact hY6)]; exact y2N
                        have y3z : w7.cell? ⟨w3.heap.size, 3, none⟩ = some (.bool t.sc) := by rw [hk7 _ hYW hvTY, hbb.cell (by exact hY6)]; exact y3N
                        have y4z : w7.cell? ⟨w3.heap.size, 4, none⟩ = some (.pointer el) := by rw [hk7 _ hYW hvTY, hbb.cell (by exact hY6)]; exact y4N
                        have y5z : w7.cell? ⟨w3.heap.size, 5, none⟩ = some (.int .i64 t.len) := by rw [hk7 _ hYW hvTY, hbb.cell (by exact hY6)]; exact y5N
                        have y6z : w7.cell? ⟨w3.heap.size, 6, none⟩ = some (.int .i64 t.num) := by rw [hk7 _ hYW hvTY, hbb.cell (by exact hY6)]; exact y6N
                        have y7z : w7.cell? ⟨w3.heap.size, 7, none⟩ = some (.slice none 0 0) := by rw [hk7 _ hYW hvTY, hbb.cell (by exact hY6)]; exact y7N
                        have y8z : w7.cell? ⟨w3.heap.size, 8, none⟩ = some (.pointer none) := by rw [hk7 _ hYW hvTY, hbb.cell (by exact hY6)]; exact y8N
                        have k0z := hS7.c0
                        have k1z := hS7.c1
                        have k2z := hS7.c2
                        have k3z := hS7.f1
                        have k4z := hS7.f2
                        refine hK.out _ _ ⟨y0z, y1z, y2z, y3z, y4z, y5z, y6z, y7z, y8z⟩ ⟨k1z, k2z⟩ (fun hHeldN hHeldN2 => ?_)
                        clear hK K hHeld hHeld2
                        have hHeld := hHeldN
                        have hHeld2 := hHeldN2
                        clear hHeldN hHeldN2
                        (try simp only [Act.put, List.setIfInBounds_toArray, List.set_cons_zero, List.set_cons_succ])
                        clear hS7 hz7 hk7 hb7 hsn hli hbb hYW y0N y1N y2N y3N y4N y5N y6N y7N y8N
                        refine wpAnyK_ready (rs := [11]) (by kernel_rfl) (by simp) ?_
                        refine AllReadyK.late rfl (by kernel_rfl) (fun K hK => ?_) AllReadyK.nil
                        go_simp
                        refine hK.out _ _ ⟨by rw [World.cell?_setCell_far _ _ _ _ hRy1]; exact y0z, by rw [World.cell?_setCell_far _ _ _ _ hRy1]; exact y1z, by rw [World.cell?_setCell_far _ _ _ _ hRy1]; exact y2z, by rw [World.cell?_setCell_far _ _ _ _ hRy1]; exact y3z, by rw [World.cell?_setCell_far _ _ _ _ hRy1]; exact y4z, by rw [World.cell?_setCell_far _ _ _ _ hRy1]; exact y5z, by rw [World.cell?_setCell_far _ _ _ _ hRy1]; exact y6z, by rw [World.cell?_setCell_far _ _ _ _ hRy1]; exact y7z, by rw [World.cell?_setCell_far _ _ _ _ hRy1]; exact y8z⟩ (fun hHeldN => ?_)
                        clear hK K hHeld hHeld2
                        have hHeld := hHeldN
                        clear hHeldN
                        (try simp only [Act.put, List.setIfInBounds_toArray, List.set_cons_zero, List.set_cons_succ])
                        refine takeK1 (i := 12) (d := 87) (v := ?_) rfl rfl (by decide) (by kernel_rfl) (by kernel_rfl) (by kernel_rfl) (fun _ _ _ h => h) (Or.inl ⟨by rfl, ?_⟩) (by assumption) (fun h => by cases h) ?_
                        rotate_left
                        · intro w hSw
                          (try dsimp only at hSw)
                          go_simp
                          (try with_reducible rfl)
                        (try simp only [Act.put, List.setIfInBounds_toArray, List.set_cons_zero, List.set_cons_succ])
                        refine wpAnyK_ready (rs := [13]) (by kernel_rfl) (by simp) ?_
                        refine AllReadyK.late rfl (by kernel_rfl) (fun K hK => ?_) AllReadyK.nil
                        go_simp
                        refine hK.out _ _ ⟨by rw [World.cell?_setCell_far _ _ _ _ hRy1, World.cell?_setCell_far _ _ _ _ hRy1]; exact y0z, by rw [World.cell?_setCell_far _ _ _ _ hRy1, World.cell?_setCell_far _ _ _ _ hRy1]; exact y1z, by rw [World.cell?_setCell_far _ _ _ _ hRy1, World.cell?_setCell_far _ _ _ _ hRy1]; exact y2z, by rw [World.cell?_setCell_far _ _ _ _ hRy1, World.cell?_setCell_far _ _ _ _ hRy1]; exact y3z, by rw [World.cell?_setCell_far _ _ _ _ hRy1, World.cell?_setCell_far _ _ _ _ hRy1]; exact y4z, by rw [World.cell?_setCell_far _ _ _ _ hRy1, World.cell?_setCell_far _ _ _ _ hRy1]; exact y5z, by rw [World.cell?_setCell_far _ _ _ _ hRy1, World.cell?_setCell_far _ _ _ _ hRy1]; exact y6z, by rw [World.cell?_setCell_far _ _ _ _ hRy1, World.cell?_setCell_far _ _ _ _ hRy1]; exact y7z, by rw [World.cell?_setCell_far _ _ _ _ hRy1, World.cell?_setCell_far _ _ _ _ hRy1]; exact y8z⟩ (fun hHeldN => ?_)
                        clear hK K hHeld
                        have hHeld := hHeldN
                        clear hHeldN
                        (try simp only [Act.put, List.setIfInBounds_toArray, List.set_cons_zero, List.set_cons_succ])
                        refine wpAnyK_done (by kernel_rfl) ?_ _
                        clear hHeld
                        go_wp2_with fail
                        go_roundw
                        case rel =>
                          have hb24 : Below R Z w5 := HBQ.out.trans ((HB24.out.mono (by omega)).trans HB5.out)
                          have hput := HS7.out.put
                          exact ⟨k + 1, _, by go_num, rfl, by omega, Lib.hid ⟨_, _, _, _, _, hput, fun q hq => by
                            by_cases hqk : q < k
                            · rw [upd_lt _ _ _ hqk]; exact HOKS.out q hqk
                            · obtain rfl : q = k := by omega
                              rw [upd_at]; exact HOK.out, hb24.trans ((HB7.out.setCell (by simp) _).setCell (by simp) _), by simpa using hR7, fun h => by omega⟩⟩
                        case measure => simp [intOf]; omega
                      refine AllReadyK.cons rfl (fun K hK => ?_) AllReadyK.nil
                      go_simp
                      refine hK.out _ _ SYNT.out SRNT.out (fun hHeldN hHeldN2 => ?_)
                      clear hK K hHeld hHeld2
                      have hHeld := hHeldN
                      have hHeld2 := hHeldN2
                      clear hHeldN hHeldN2
                      (try simp only [Act.put, List.setIfInBounds_toArray, List.set_cons_zero, List.set_cons_succ])
                      refine wpAnyK_ready (rs := [4]) (by kernel_rfl) (by simp) ?_
                      refine AllReadyK.cons rfl (fun K hK => ?_) AllReadyK.nil
                      refine stepN (by rfl) _ _ (by rfl) HS5.out hR5 hk1000 (by with_reducible exact BNT.out) ⟨w5.heap.size, 0, none⟩ (by rfl) (by rfl) (by with_reducible exact LNNT.out) ?_
                      intro gN cN w6N hS6 hz6 hk6 hb6
                      have HSN := Lib.hid hS6
                      have HBB := Lib.hid hb6
                      have hR6 : R < w6N.heap.size := Nat.lt_of_lt_of_le RBNT.out hz6
                      have hY6 : w3.heap.size < w6N.heap.size := Nat.lt_of_lt_of_le YBNT.out hz6
                      have y0N : w6N.cell? ⟨w3.heap.size, 0, none⟩ = some (.int .i64 t.kind) := by rw [hk6 _ YBNT.out hvNY, BNT.out.cell (by exact h35)]; exact hy0
                      have y1N : w6N.cell? ⟨w3.heap.size, 1, none⟩ = some (.int .i64 t.size) := by rw [hk6 _ YBNT.out hvNY, BNT.out.cell (by exact h35)]; exact hy1
                      have y2N : w6N.cell? ⟨w3.heap.size, 2, none⟩ = some (.bool t.sg) := by rw [hk6 _ YBNT.out hvNY, BNT.out.cell (by exact h35)]; exact hy2
                      have y3N : w6N.cell? ⟨w3.heap.size, 3, none⟩ = some (.bool t.sc) := by rw [hk6 _ YBNT.out hvNY, BNT.out.cell (by exact h35)]; exact hy3
                      have y4N : w6N.cell? ⟨w3.heap.size, 4, none⟩ = some (.pointer el) := by rw [hk6 _ YBNT.out hvNY, BNT.out.cell (by exact h35)]; exact hy4
                      have y5N : w6N.cell? ⟨w3.heap.size, 5, none⟩ = some (.int .i64 t.len) := by rw [hk6 _ YBNT.out hvNY, BNT.out.cell (by exact h35)]; exact hy5
                      have y6N : w6N.cell? ⟨w3.heap.size, 6, none⟩ = some (.int .i64 t.num) := by rw [hk6 _ YBNT.out hvNY, BNT.out.cell (by exact h35)]; exact hy6
                      have y7N : w6N.cell? ⟨w3.heap.size, 7, none⟩ = some (.slice none 0 0) := by rw [hk6 _ YBNT.out hvNY, BNT.out.cell (by exact h35)]; exact hy7
                      have y8N : w6N.cell? ⟨w3.heap.size, 8, none⟩ = some (.pointer none) := by rw [hk6 _ YBNT.out hvNY, BNT.out.cell (by exact h35)]; exact hy8
                      have L2 : Hid (Cells9 w6N (w5.heap.size + 1) 0 ((upd TY k t) k) ((upd EL k el) k)) := Lib.hid (LTNT.out.same (fun o => hk6 _ L1NT.out V1.out o))
                      refine hK.out _ _ ⟨y0N, y1N, y2N, y3N, y4N, y5N, y6N, y7N, y8N⟩ ⟨hS6.c1, hS6.c2⟩ (fun hHeldN hHeldN2 => ?_)
                      clear hK K hHeld hHeld2
                      have hHeld := hHeldN
                      have hHeld2 := hHeldN2
                      clear hHeldN hHeldN2
                      (try simp only [Act.put, List.setIfInBounds_toArray, List.set_cons_zero, List.set_cons_succ])
                      clear hS6 hz6 hk6 hb6
                      refine takeK1 (i := 10) (d := 86) (v := ?_) rfl rfl (by decide) (by kernel_rfl) (by kernel_rfl) (by kernel_rfl) (fun _ _ _ h => h) (Or.inl ⟨by rfl, ?_⟩) (by assumption) (fun _ => by assumption) ?_
                      rotate_left
                      · intro w hSw
                        (try dsimp only at hSw)
                        go_simp
                        (try with_reducible rfl)
                      (try simp only [Act.put, List.setIfInBounds_toArray, List.set_cons_zero, List.set_cons_succ])
                      refine wpAnyK_ready (rs := [9]) (by kernel_rfl) (by simp) ?_
                      refine AllReadyK.cons rfl (fun K hK => ?_) AllReadyK.nil
                      have hsn := HSN.out
                      have hbb : Below w6N.heap.size w6N w6N := Below.refl _ _
                      have hli := L2.out
                      have hYW : w3.heap.size < w6N.heap.size := Nat.lt_of_lt_of_le hY6 hbb.size
                      refine stepT (by rfl) _ _ (by rfl) hsn hR6 hk1000 (by with_reducible exact hbb) (w5.heap.size + 1) (by rfl) (by rfl) (by with_reducible exact hli) ?_
                      intro gT cT w7 hS7 hz7 hk7 hb7
                      have HS7 := Lib.hid hS7
                      have HB7 : Hid (Below R w5 w7) := Lib.hid (HBB.out.trans hb7)
                      have hR7 : R < w7.heap.size := Nat.lt_of_lt_of_le (Nat.lt_of_lt_of_le hR6 hbb.size) hz7
                      have y0z : w7.cell? ⟨w3.heap.size, 0, none⟩ = some (.int .i64 t.kind) := by rw [hk7 _ hYW hvTY, hbb.cell (by exact hY6)]; exact y0N
                      have y1z : w7.cell? ⟨w3.heap.size, 1, none⟩ = some (.int .i64 t.size) := by rw [hk7 _ hYW hvTY, hbb.cell (by exact hY6)]; exact y1N
                      have y2z : w7.cell? ⟨w3.heap.size, 2, none⟩ = some (.bool t.sg) := by rw [hk7 _ hYW hvTY, hbb.cell (by exact hY6)]; exact y2N
                      have y3z : w7.cell? ⟨w3.heap.size, 3, none⟩ = some (.bool t.sc) := by rw [hk7 _ hYW hvTY, hbb.cell (by exact hY6)]; exact y3N
                      have y4z : w7.cell? ⟨w3.heap.size, 4, none⟩ = some (.pointer el) := by rw [hk7 _ hYW hvTY, hbb.cell (by exact hY6)]; exact y4N
                      have y5z : w7.cell? ⟨w3.heap.size, 5, none⟩ = some (.int .i64 t.len) := by rw [hk7 _ hYW hvTY, hbb.cell (by exact hY6)]; exact y5N
                      have y6z : w7.cell? ⟨w3.heap.size, 6, none⟩ = some (.int .i64 t.num) := by rw [hk7 _ hYW hvTY, hbb.cell (by exact hY6)]; exact y6N
                      have y7z : w7.cell? ⟨w3.heap.size, 7, none⟩ = some (.slice none 0 0) := by rw [hk7 _ hYW hvTY, hbb.cell (by exact hY6)]; exact y7N
                      have y8z : w7.cell? ⟨w3.heap.size, 8, none⟩ = some (.pointer none) := by rw [hk7 _ hYW hvTY, hbb.cell (by exact hY6)]; exact y8N
                      have k0z := hS7.c0
                      have k1z := hS7.c1
                      have k2z := hS7.c2
                      have k3z := hS7.f1
                      have k4z := hS7.f2
                      refine hK.out _ _ ⟨y0z, y1z, y2z, y3z, y4z, y5z, y6z, y7z, y8z⟩ ⟨k1z, k2z⟩ (fun hHeldN hHeldN2 => ?_)
                      clear hK K hHeld hHeld2
                      have hHeld := hHeldN
                      have hHeld2 := hHeldN2
                      clear hHeldN hHeldN2
                      (try simp only [Act.put, List.setIfInBounds_toArray, List.set_cons_zero, List.set_cons_succ])
                      clear hS7 hz7 hk7 hb7 hsn hli hbb hYW y0N y1N y2N y3N y4N y5N y6N y7N y8N
                      refine wpAnyK_ready (rs := [11]) (by kernel_rfl) (by simp) ?_
                      refine AllReadyK.late rfl (by kernel_rfl) (fun K hK => ?_) AllReadyK.nil
                      go_simp
                      refine hK.out _ _ ⟨by rw [World.cell?_setCell_far _ _ _ _ hRy1]; exact y0z, by rw [World.cell?_setCell_far _ _ _ _ hRy1]; exact y1z, by rw [World.cell?_setCell_far _ _ _ _ hRy1]; exact y2z, by rw [World.cell?_setCell_far _ _ _ _ hRy1]; exact y3z, by rw [World.cell?_setCell_far _ _ _ _ hRy1]; exact y4z, by rw [World.cell?_setCell_far _ _ _ _ hRy1]; exact y5z, by rw [World.cell?_setCell_far _ _ _ _ hRy1]; exact y6z, by rw [World.cell?_setCell_far _ _ _ _ hRy1]; exact y7z, by rw [World.cell?_setCell_far _ _ _ _ hRy1]; exact y8z⟩ (fun hHeldN => ?_)
                      clear hK K hHeld hHeld2
                      have hHeld := hHeldN
                      clear hHeldN
                      (try simp only [Act.put, List.setIfInBounds_toArray, List.set_cons_zero, List.set_cons_succ])
                      refine takeK1 (i := 12) (d := 87) (v := ?_) rfl rfl (by decide) (by kernel_rfl) (by kernel_rfl) (by kernel_rfl) (fun _ _ _ h => h) (Or.inl ⟨by rfl, ?_⟩) (by assumption) (fun h => by cases h) ?_
                      rotate_left
                      · intro w hSw
                        (try dsimp only at hSw)
                        go_simp
                        (try with_reducible rfl)
                      (try simp only [Act.put, List.setIfInBounds_toArray, List.set_cons_zero, List.set_cons_succ])
                      refine wpAnyK_ready (rs := [13]) (by kernel_rfl) (by simp) ?_
                      refine AllReadyK.late rfl (by kernel_rfl) (fun K hK => ?_) AllReadyK.nil
                      go_simp
                      refine hK.out _ _ ⟨by rw [World.cell?_setCell_far _ _ _ _ hRy1, World.cell?_setCell_far _ _ _ _ hRy1]; exact y0z, by rw [World.cell?_setCell_far _ _ _ _ hRy1, World.cell?_setCell_far _ _ _ _ hRy1]; exact y1z, by rw [World.cell?_setCell_far _ _ _ _ hRy1, World.cell?_setCell_far _ _ _ _ hRy1]; exact y2z, by rw [World.cell?_setCell_far _ _ _ _ hRy1, World.cell?_setCell_far _ _ _ _ hRy1]; exact y3z, by rw [World.cell?_setCell_far _ _ _ _ hRy1, World.cell?_setCell_far _ _ _ _ hRy1]; exact y4z, by rw [World.cell?_setCell_far _ _ _ _ hRy1, World.cell?_setCell_far _ _ _ _ hRy1]; exact y5z, by rw [World.cell?_setCell_far _ _ _ _ hRy1, World.cell?_setCell_far _ _ _ _ hRy1]; exact y6z, by rw [World.cell?_setCell_far _ _ _ _ hRy1, World.cell?_setCell_far _ _ _ _ hRy1]; exact y7z, by rw [World.cell?_setCell_far _ _ _ _ hRy1, World.cell?_setCell_far _ _ _ _ hRy1]; exact y8z⟩ (fun hHeldN => ?_)
                      clear hK K hHeld
                      have hHeld := hHeldN
                      clear hHeldN
                      (try simp only [Act.put, List.setIfInBounds_toArray, List.set_cons_zero, List.set_cons_succ])
                      refine wpAnyK_done (by kernel_rfl) ?_ _
                      clear hHeld
                      go_wp2_with fail
                      go_roundw
                      case rel =>
                        have hb24 : Below R Z w5 := HBQ.out.trans ((HB24.out.mono (by omega)).trans HB5.out)
                        have hput := HS7.out.put
                        exact ⟨k + 1, _, by go_num, rfl, by omega, Lib.hid ⟨_, _, _, _, _, hput, fun q hq => by
                          by_cases hqk : q < k
                          · rw [upd_lt _ _ _ hqk]; exact HOKS.out q hqk
                          · obtain rfl : q = k := by omega
                            rw [upd_at]; exact HOK.out, hb24.trans ((HB7.out.setCell (by simp) _).setCell (by simp) _), by simpa using hR7, fun h => by omega⟩⟩
                      case measure => simp [intOf]; omega
                    refine AllReadyK.cons rfl (fun K hK => ?_) AllReadyK.nil
                    go_simp
                    refine hK.out _ _ SYT.out SRT.out (fun hHeldN hHeldN2 => ?_)
                    clear hK K hHeld hHeld2
                    have hHeld := hHeldN
                    have hHeld2 := hHeldN2
                    clear hHeldN hHeldN2
                    (try simp only [Act.put, List.setIfInBounds_toArray, List.set_cons_zero, List.set_cons_succ])
                    refine wpAnyK_ready (rs := [3]) (by kernel_rfl) (by simp) ?_
                    refine AllReadyK.cons rfl (fun K hK => ?_) AllReadyK.nil
                    go_simp
                    refine hK.out _ _ SYTN.out SRTN.out (fun hHeldN hHeldN2 => ?_)
                    clear hK K hHeld hHeld2
                    have hHeld := hHeldN
                    have hHeld2 := hHeldN2
                    clear hHeldN hHeldN2
                    (try simp only [Act.put, List.setIfInBounds_toArray, List.set_cons_zero, List.set_cons_succ])
                    refine wpAnyK_ready (rs := [4]) (by kernel_rfl) (by simp) ?_
                    refine AllReadyK.cons rfl (fun K hK => ?_) AllReadyK.nil
                    refine stepN (by rfl) _ _ (by rfl) HS5.out hR5 hk1000 (by with_reducible exact BTN.out) ⟨w5.heap.size + 1, 0, none⟩ (by rfl) (by rfl) (by with_reducible exact LNTN.out) ?_
                    intro gN cN w6N hS6 hz6 hk6 hb6
                    have HSN := Lib.hid hS6
                    have HBB := Lib.hid hb6
                    have hR6 : R < w6N.heap.size := Nat.lt_of_lt_of_le RBTN.out hz6
                    have hY6 : w3.heap.size < w6N.heap.size := Nat.lt_of_lt_of_le YBTN.out hz6
                    have y0N : w6N.cell? ⟨w3.heap.size, 0, none⟩ = some (.int .i64 t.kind) := by rw [hk6 _ YBTN.out hvNY, BTN.out.cell (by exact h35)]; exact hy0
                    have y1N : w6N.cell? ⟨w3.heap.size, 1, none⟩ = some (.int .i64 t.size) := by rw [hk6 _ YBTN.out hvNY, BTN.out.cell (by exact h35)]; exact hy1
                    have y2N : w6N.cell? ⟨w3.heap.size, 2, none⟩ = some (.bool t.sg) := by rw [hk6 _ YBTN.out hvNY, BTN.out.cell (by exact h35)]; exact hy2
                    have y3N : w6N.cell? ⟨w3.heap.size, 3, none⟩ = some (.bool t.sc) := by rw [hk6 _ YBTN.out hvNY, BTN.out.cell (by exact h35)]; exact hy3
                    have y4N : w6N.cell? ⟨w3.heap.size, 4, none⟩ = some (.pointer el) := by rw [hk6 _ YBTN.out hvNY, BTN.out.cell (by exact h35)]; exact hy4
                    have y5N : w6N.cell? ⟨w3.heap.size, 5, none⟩ = some (.int .i64 t.len) := by rw [hk6 _ YBTN.out hvNY, BTN.out.cell (by exact h35)]; exact hy5
                    have y6N : w6N.cell? ⟨w3.heap.size, 6, none⟩ = some (.int .i64 t.num) := by rw [hk6 _ YBTN.out hvNY, BTN.out.cell (by exact h35)]; exact hy6
                    have y7N : w6N.cell? ⟨w3.heap.size, 7, none⟩ = some (.slice none 0 0) := by rw [hk6 _ YBTN.out hvNY, BTN.out.cell (by exact h35)]; exact hy7
                    have y8N : w6N.cell? ⟨w3.heap.size, 8, none⟩ = some (.pointer none) := by rw [hk6 _ YBTN.out hvNY, BTN.out.cell (by exact h35)]; exact hy8
                    have L2 : Hid (Cells9 w6N (w5.heap.size) 0 ((upd TY k t) k) ((upd EL k el) k)) := Lib.hid (LTTN.out.same (fun o => hk6 _ L0TN.out V0.out o))
                    refine hK.out _ _ ⟨y0N, y1N, y2N, y3N, y4N, y5N, y6N, y7N, y8N⟩ ⟨hS6.c1, hS6.c2⟩ (fun hHeldN hHeldN2 => ?_)
                    clear hK K hHeld hHeld2
                    have hHeld := hHeldN
                    have hHeld2 := hHeldN2
                    clear hHeldN hHeldN2
                    (try simp only [Act.put, List.setIfInBounds_toArray, List.set_cons_zero, List.set_cons_succ])
                    clear hS6 hz6 hk6 hb6
                    refine takeK1 (i := 10) (d := 86) (v := ?_) rfl rfl (by decide) (by kernel_rfl) (by kernel_rfl) (by kernel_rfl) (fun _ _ _ h => h) (Or.inl ⟨by rfl, ?_⟩) (by assumption) (fun _ => by assumption) ?_
                    rotate_left
                    · intro w hSw
                      (try dsimp only at hSw)
                      go_simp
                      (try with_reducible rfl)
                    (try simp only [Act.put, List.setIfInBounds_toArray, List.set_cons_zero, List.set_cons_succ])
                    refine wpAnyK_ready (rs := [9]) (by kernel_rfl) (by simp) ?_
                    refine AllReadyK.cons rfl (fun K hK => ?_) AllReadyK.nil
                    have hsn := HSN.out
                    have hbb : Below w6N.heap.size w6N w6N := Below.refl _ _
                    have hli := L2.out
                    have hYW : w3.heap.size < w6N.heap.size := Nat.lt_of_lt_of_le hY6 hbb.size
                    refine stepT (by rfl) _ _ (by rfl) hsn hR6 hk1000 (by with_reducible exact hbb) (w5.heap.size) (by rfl) (by rfl) (by with_reducible exact hli) ?_
                    intro gT cT w7 hS7 hz7 hk7 hb7
                    have HS7 := Lib.hid hS7
                    have HB7 : Hid (Below R w5 w7) := Lib.hid (HBB.out.trans hb7)
                    have hR7 : R < w7.heap.size := Nat.lt_of_lt_of_le (Nat.lt_of_lt_of_le hR6 hbb.size) hz7
                    have y0z : w7.cell? ⟨w3.heap.size, 0, none⟩ = some (.int .i64 t.kind) := by rw [hk7 _ hYW hvTY, hbb.cell (by exact hY6)]; exact y0N
                    have y1z : w7.cell? ⟨w3.heap.size, 1, none⟩ = some (.int .i64 t.size) := by rw [hk7 _ hYW hvTY, hbb.cell (by exact hY6)]; exact y1N
                    have y2z : w7.cell? ⟨w3.heap.size, 2, none⟩ = some (.bool t.sg) := by rw [hk7 _ hYW hvTY, hbb.cell (by exact hY6)]; exact y2N
                    have y3z : w7.cell? ⟨w3.heap.size, 3, none⟩ = some (.bool t.sc) := by rw [hk7 _ hYW hvTY, hbb.cell (by exact hY6)]; exact y3N
                    have y4z : w7.cell? ⟨w3.heap.size, 4, none⟩ = some (.pointer el) := by rw [hk7 _ hYW hvTY, hbb.cell (by exact hY6)]; exact y4N
                    have y5z : w7.cell? ⟨w3.heap.size, 5, none⟩ = some (.int .i64 t.len) := by rw [hk7 _ hYW hvTY, hbb.cell (by exact hY6)]; exact y5N
                    have y6z : w7.cell? ⟨w3.heap.size, 6, none⟩ = some (.int .i64 t.num) := by rw [hk7 _ hYW hvTY, hbb.cell (by exact hY6)]; exact y6N
                    have y7z : w7.cell? ⟨w3.heap.size, 7, none⟩ = some (.slice none 0 0) := by rw [hk7 _ hYW hvTY, hbb.cell (by exact hY6)]; exact y7N
                    have y8z : w7.cell? ⟨w3.heap.size, 8, none⟩ = some (.pointer none) := by rw [hk7 _ hYW hvTY, hbb.cell (by exact hY6)]; exact y8N
                    have k0z := hS7.c0
                    have k1z := hS7.c1
                    have k2z := hS7.c2
                    have k3z := hS7.f1
                    have k4z := hS7.f2
                    refine hK.out _ _ ⟨y0z, y1z, y2z, y3z, y4z, y5z, y6z, y7z, y8z⟩ ⟨k1z, k2z⟩ (fun hHeldN hHeldN2 => ?_)
                    clear hK K hHeld hHeld2
                    have hHeld := hHeldN
                    have hHeld2 := hHeldN2
                    clear hHeldN hHeldN2
                    (try simp only [Act.put, List.setIfInBounds_toArray, List.set_cons_zero, List.set_cons_succ])
                    clear hS7 hz7 hk7 hb7 hsn hli hbb hYW y0N y1N y2N y3N y4N y5N y6N y7N y8N
                    refine wpAnyK_ready (rs := [11]) (by kernel_rfl) (by simp) ?_
                    refine AllReadyK.late rfl (by kernel_rfl) (fun K hK => ?_) AllReadyK.nil
                    go_simp
                    refine hK.out _ _ ⟨by rw [World.cell?_setCell_far _ _ _ _ hRy1]; exact y0z, by rw [World.cell?_setCell_far _ _ _ _ hRy1]; exact y1z, by rw [World.cell?_setCell_far _ _ _ _ hRy1]; exact y2z, by rw [World.cell?_setCell_far _ _ _ _ hRy1]; exact y3z, by rw [World.cell?_setCell_far _ _ _ _ hRy1]; exact y4z, by rw [World.cell?_setCell_far _ _ _ _ hRy1]; exact y5z, by rw [World.cell?_setCell_far _ _ _ _ hRy1]; exact y6z, by rw [World.cell?_setCell_far _ _ _ _ hRy1]; exact y7z, by rw [World.cell?_setCell_far _ _ _ _ hRy1]; exact y8z⟩ (fun hHeldN => ?_)
                    clear hK K hHeld hHeld2
                    have hHeld := hHeldN
                    clear hHeldN
                    (try simp only [Act.put, List.setIfInBounds_toArray, List.set_cons_zero, List.set_cons_succ])
                    refine takeK1 (i := 12) (d := 87) (v := ?_) rfl rfl (by decide) (by kernel_rfl) (by kernel_rfl) (by kernel_rfl) (fun _ _ _ h => h) (Or.inl ⟨by rfl, ?_⟩) (by assumption) (fun h => by cases h) ?_
                    rotate_left
                    · intro w hSw
                      (try dsimp only at hSw)
                      go_simp
                      (try with_reducible rfl)
                    (try simp only [Act.put, List.setIfInBounds_toArray, List.set_cons_zero, List.set_cons_succ])
                    refine wpAnyK_ready (rs := [13]) (by kernel_rfl) (by simp) ?_
                    refine AllReadyK.late rfl (by kernel_rfl) (fun K hK => ?_) AllReadyK.nil
                    go_simp
                    refine hK.out _ _ ⟨by rw [World.cell?_setCell_far _ _ _ _ hRy1, World.cell?_setCell_far _ _ _ _ hRy1]; exact y0z, by rw [World.cell?_setCell_far _ _ _ _ hRy1, World.cell?_setCell_far _ _ _ _ hRy1]; exact y1z, by rw [World.cell?_setCell_far _ _ _ _ hRy1, World.cell?_setCell_far _ _ _ _ hRy1]; exact y2z, by rw [World.cell?_setCell_far _ _ _ _ hRy1, World.cell?_setCell_far _ _ _ _ hRy1]; exact y3z, by rw [World.cell?_setCell_far _ _ _ _ hRy1, World.cell?_setCell_far _ _ _ _ hRy1]; exact y4z, by rw [World.cell?_setCell_far _ _ _ _ hRy1, World.cell?_setCell_far _ _ _ _ hRy1]; exact y5z, by rw [World.cell?_setCell_far _ _ _ _ hRy1, World.cell?_setCell_far _ _ _ _ hRy1]; exact y6z, by rw [World.cell?_setCell_far _ _ _ _ hRy1, World.cell?_setCell_far _ _ _ _ hRy1]; exact y7z, by rw [World.cell?_setCell_far _ _ _ _ hRy1, World.cell?_setCell_far _ _ _ _ hRy1]; exact y8z⟩ (fun hHeldN => ?_)
                    clear hK K hHeld
                    have hHeld := hHeldN
                    clear hHeldN
                    (try simp only [Act.put, List.setIfInBounds_toArray, List.set_cons_zero, List.set_cons_succ])
                    refine wpAnyK_done (by kernel_rfl) ?_ _
                    clear hHeld
                    go_wp2_with fail
                    go_roundw
                    case rel =>
                      have hb24 : Below R Z w5 := HBQ.out.trans ((HB24.out.mono (by omega)).trans HB5.out)
                      have hput := HS7.out.put
                      exact ⟨k + 1, _, by go_num, rfl, by omega, Lib.hid ⟨_, _, _, _, _, hput, fun q hq => by
                        by_cases hqk : q < k
                        · rw [upd_lt _ _ _ hqk]; exact HOKS.out q hqk
                        · obtain rfl : q = k := by omega
                          rw [upd_at]; exact HOK.out, hb24.trans ((HB7.out.setCell (by simp) _).setCell (by simp) _), by simpa using hR7, fun h => by omega⟩⟩
                    case measure => simp [intOf]; omega
            · obtain rfl : k = sn := by omega
              have hboth2 := HBOTH.out.below HW2.out
              have hva : ∀ g, va0.ownBlock = some g → g < R := fun g hg => by have := (HBOTH.out.w1.o.lt g hg).2; have := HXD.out; omega
              have hstep := both_step hboth2 HNIL.out HROW.out (by omega) HK0.out HOKS.out hva (by have := HXD.out; omega)
              have hr0 := HROW.out.c0
              have hr1 := HROW.out.c1
              have hr2 := HROW.out.c2
              have HB2 := Lib.hid hboth2
              have HSTEP := Lib.hid hstep
              clear hboth2 hva hstep
              rcases HSTEP.out with ⟨code, hc0, hA, hBr⟩ | ⟨hn19, hA⟩
              · have HA := Lib.hid hA
                have HBA := Lib.hid hBr
                have hc1 : (code != 0) = true := by simp [bne, hc0]
                clear hA hBr
                have HCEL2 := Lib.hid (And.intro hr0 (And.intro hr1 hr2))
                go_wp2_with (go_at_call 19
                             (with_reducible refine HA.out.mono ?_)
                             rintro e w3 ⟨rfl, hb3⟩
                             have HB3 : Hid (Below w2.heap.size w2 w3) := Lib.hid hb3
                             have hr03 : w3.cell? ⟨R, 0, none⟩ = some (.string nm) := by rw [hb3.cell (by exact hRq)]; exact HCEL2.out.1
                             have hr13 : w3.cell? ⟨R, 1, none⟩ = some vN := by rw [hb3.cell (by exact hRq)]; exact HCEL2.out.2.1
                             have hr23 : w3.cell? ⟨R, 2, none⟩ = some vT := by rw [hb3.cell (by exact hRq)]; exact HCEL2.out.2.2
                             clear hb3 hr0 hr1 hr2)
                (with_reducible refine (HBA.out w3 HB3.out).mono ?_)
                rintro e w4 ⟨rfl, hb4⟩
                have HB4 : Hid (Below w2.heap.size w2 w4) := Lib.hid (HB3.out.trans (hb4.mono HB3.out.size))
                clear hb4 hr03 hr13 hr23
                go_wp2_with fail
                go_roundw
                case rel =>
                  have hbw : Below w.heap.size w w4 := HBR.out.trans ((HW2.out.trans (HB4.out.mono HW2.out.size)).mono HBR.out.size)
                  have hsz4 := HB4.out.size
                  have hsz2 := HW2.out.size
                  have htl4 := HTL.out
                  exact ⟨i + 1, n, by go_num, by omega, hbw, by omega, Lib.hid ⟨va0, lb, lc, la, SN, CT, NM0, TY0, SZ, AL, FA, FN, FC, GP, ELP, RV, G, CC, ELR, rfl, HNIL.out, HSIZES.out, HB2.out.below HB4.out⟩⟩
                case measure => simp [intOf]; omega
              · have HA := Lib.hid hA
                clear hA
                go_wp2_with (go_at_call 19
                             (with_reducible refine HA.out.mono ?_)
                             rintro e w3 ⟨rfl, hbt3, hsz3, ⟨hr03, hr13, hr23⟩, hcall⟩
                             have HCALL := Lib.hid hcall
                             have HBT3 := Lib.hid hbt3
                             clear hbt3 hcall hr0 hr1 hr2)
                (with_reducible refine HCALL.out.mono ?_)
                rintro e w4 ⟨lb', lc', rfl, hb4, va', FA', FN', FC', GP', ELP', CT', NM', TY', SZ', AL', RV', G', CC', ELR', hbn⟩
                have HB4 := Lib.hid hb4
                have HBN := Lib.hid hbn
                clear hb4 hbn hr03 hr13 hr23
                go_wp2_with fail
                go_roundw
                case rel =>
                  have htw : w.heap.size = tb := HTB.out.symm
                  have hsz2 := HW2.out.size
                  have htl4 := HTL.out
                  have hb3w : Below tb w2 w3 := HBT3.out
                  have hbw : Below w.heap.size w w4 := (HBR.out.trans (HW2.out.mono HBR.out.size)).trans ((hb3w.trans (HB4.out.mono (by omega))).mono (by omega))
                  have hsz4 := HB4.out.size
                  refine ⟨i + 1, n + 1, by go_num, by omega, hbw, by omega, Lib.hid ⟨va', lb', lc', some ⟨lb', 0, none⟩, upd SN n nm, CT', NM', TY', SZ', AL', FA', FN', FC', GP', ELP', RV', G', CC', ELR', by first | rfl | simp, fun h => by omega, fun k hk => ?_, HBN.out⟩⟩
                  by_cases hkn : k < n
                  · rw [upd_lt _ _ _ hkn]; exact HSIZES.out k hkn
                  · obtain rfl : k = n := by omega
                    rw [upd_at]; exact hnmz
                case measure => simp [intOf]; omega
      · obtain rfl : i = len0 := by omega
        clear hb
        obtain ⟨va0, lb, lc, la, SN, CT, NM0, TY0, SZ, AL, FA, FN, FC, GP, ELP, RV, G, CC, ELR, rfl, hrest⟩ := HB0.out
        have HREST := Lib.hid hrest
        clear hrest
        go_wp2_with fail
        refine bodyPost_ret (v := .tuple #[.pointer (some ⟨tb, 0, none⟩), .slice la n lc, .bool true, .bool true]) ?_ rfl ⟨_, _, by rw [HTB.out], HBR.out, fun _ => ⟨n, va0, lb, lc, la, SN, CT, NM0, TY0, SZ, AL, FA, FN, FC, GP, ELP, RV, G, CC, ELR, rfl, by rw [← HTB.out]; exact HREST.out⟩⟩
        simp [results, Tryd.results6, go_sem]
end Go.Proofs.YtoajcggiccfaiaaDoor
