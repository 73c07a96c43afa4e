import Derived.Test.YtdkhanjfncbfnaaOsLE
import Derived.Test.YtdkhanjfncbfnaaOsLG
namespace Go.Proofs.Ytdkhanjfncbfnaa
open Go Go.RowKit
set_option linter.unusedVariables false
set_option linter.unusedSimpArgs false

set_option maxRecDepth 100000 in
set_option maxHeartbeats 8000000 in
theorem paint_st (T : Tb) (hlay : LayT T) (k : Nat) (hkn : k < T.n) (off sz en : Nat → Nat) (LFs : Nat → Nat → Bool) (N hi g o len cap at_ : Nat) (hof : Offs T k N off sz en) (hok : ∀ j, j < T.CT k → OkT (T.TY k j)) (hmk : ∀ j, j < T.CT k → PaintOk T (T.TY k j) (LFs j))
    (hN : at_ + N ≤ len) (hlc : len ≤ cap) (hcap : cap ≤ 1000000) (w : World) (hk : TabK T hi w) (hg : hi ≤ g) (hgl : g < w.heap.size) (hl : Labs w g (o + at_) N (fun _ => false)) (hz : ∀ j, w.frozen? ⟨g, j, none⟩ = false) :
    Calls Try.prog 19 #[.pointer (some ⟨T.tb, 0, none⟩), (.agg #[.int .i64 4, .int .i64 0, .bool false, .bool false, .pointer none, .int .i64 0, .int .i64 (k : Int), .slice none 0 0, .pointer none]), .slice (some ⟨g, o, none⟩) len cap, .int .i64 (at_ : Int)] w (Paints g (o + at_) N (fieldsL off sz LFs (T.CT k)) w) := by
  have HL := Lib.hid hl
  have HZ := Lib.hid hz
  have HK := Lib.hid hk
  have HOF := Lib.hid hof
  have HOK := Lib.hid hok
  have HMK := Lib.hid hmk
  have hcap9 : cap ≤ 1000000000 := by omega
  have HM20 := Lib.hid (hlay.c k hkn)
  clear hl hz hk hof hok hmk
  go_enter Try.func19, Try.ntmps19
  go_wp2_with fail
  have hb0 : Below w.heap.size w (w.alloc (.cells #[.int .i64 4, .int .i64 0, .bool false, .bool false, .pointer none, .int .i64 0, .int .i64 (k : Int), .slice none 0 0, .pointer none] 57)) := (Below.refl _ _).alloc (Nat.le_refl _) _
  (with_reducible refine (fields_k hlay k hkn _ (HK.out.below hb0) g hg (Nat.lt_of_lt_of_le hgl hb0.size)).mono ?_)
  rintro e w1 ⟨gF, cF, EL, rfl, hrow, hel, hgF1, hgF2, hb1⟩
  have HB1 : Hid (Below w.heap.size w w1) := Lib.hid (hb0.trans (hb1.mono hb0.size))
  have HROW := Lib.hid hrow
  have HEL := Lib.hid hel
  have HGF := Lib.hid (show gF < w1.heap.size ∧ gF ≠ g from by have := hb0.size; omega)
  obtain ⟨mm, hmm⟩ : ∃ mm, mm = T.CT k := ⟨_, rfl⟩
  rw [← hmm]
  have hmm20 : mm ≤ 20 := by have := HM20.out.2; omega
  have HMM := Lib.hid hmm
  clear hb0 hb1 hrow hel hgF1 hgF2 hmm
  go_wp2_with fail
  go_loopw [61] (fun s61 wr => ∃ j : Nat, s61 = .int .i64 j ∧ j ≤ mm ∧ Hid (Turn g w1 wr) ∧ Hid (Labs wr g (o + at_) N (fieldsL off sz LFs j)) ∧ Hid (∀ i, i < o + at_ ∨ o + at_ + N ≤ i → wr.cell? ⟨g, i, none⟩ = w.cell? ⟨g, i, none⟩)) (fun s61 _ => mm - (intOf s61).toNat)
  case atStart => exact ⟨0, rfl, by omega, Lib.hid (Turn.refl _ _), Lib.hid (HL.out.below HB1.out hgl), Lib.hid (fun i _ => HB1.out.cell (by exact hgl))⟩
  case round =>
    obtain ⟨j, rfl, hj, HT, HLB, HO⟩ := hrel
    by_cases hlt : j < mm
    · have hjk : j < T.CT k := by rw [← HMM.out]; exact hlt
      have hjl : (j : Int) < mm := by omega
      have hrow' : GCells wr gF (j * 11) (T.NM k j) (T.TY k j) (EL j) (offT k T.SZ T.AL (T.TY k) j) := (HROW.out j hjk).same (fun o' => HT.out.cell (a := ⟨gF, o', none⟩) (by exact HGF.out.1) (by exact HGF.out.2))
      have hel' : ElG wr g (T.TY k j) (EL j) := ElG.turn (HEL.out j hjk) HT.out
      rw [HOF.out.o j hjk] at hrow'
      obtain ⟨t, ht⟩ : ∃ t, t = T.TY k j := ⟨_, rfl⟩
      obtain ⟨e2, he2⟩ : ∃ e2, e2 = EL j := ⟨_, rfl⟩
      obtain ⟨nm, hnm⟩ : ∃ nm, nm = T.NM k j := ⟨_, rfl⟩
      obtain ⟨p, hp⟩ : ∃ p, p = off j := ⟨_, rfl⟩
      obtain ⟨s, hs⟩ : ∃ s, s = sz j := ⟨_, rfl⟩
      rw [← ht, ← he2, ← hnm, ← hp] at hrow'
      rw [← ht, ← he2] at hel'
      have hmk := HMK.out j hjk
      rw [← ht] at hmk
      have hsz := HOF.out.s j hjk
      rw [← ht, ← hs] at hsz
      have hok := HOK.out j hjk
      rw [← ht] at hok
      have hen := HOF.out.e j hjk
      rw [← hp, ← hs] at hen
      have hle := HOF.out.l j hjk
      rw [← hp] at hle
      have hs0 := HOF.out.p j hjk
      rw [← hs] at hs0
      have hme := HOF.out.m (j + 1) (by omega)
      have hps : p + s ≤ N := by omega
      have HP := Lib.hid hp
      have HS := Lib.hid hs
      have HSZ := Lib.hid hsz
      have HOKT := Lib.hid hok
      have HEL2 := Lib.hid hel'
      have HMK2 := Lib.hid hmk
      have HLE := Lib.hid (And.intro hle hen)
      have hgr : g < wr.heap.size := Nat.lt_of_lt_of_le (Nat.lt_of_lt_of_le hgl HB1.out.size) HT.out.size
      have HFZ := Lib.hid (show ∀ i, wr.frozen? ⟨g, i, none⟩ = false from fun i => HT.out.fz i (by rw [HB1.out.frozen (by exact hgl)]; exact HZ.out i))
      obtain ⟨h0, h1, h2, h3, h4, h5, h6, h7, h8, h9, h10⟩ := hrow'
      clear ht he2 hnm hp hs hmk hsz hok hel' hen hle hme
      have hpb : (at_ : Int) + p ≤ 1000000 := by omega
      go_upto_region 18 with fail
      generalize hW4 : wr.alloc (.cells #[.string nm, .int .i64 t.kind, .int .i64 t.size, .bool t.sg, .bool t.sc, .pointer e2, .int .i64 t.len, .int .i64 t.num, .slice none 0 0, .pointer none, .int .i64 (p : Int)] 61) = W4
      obtain ⟨F, hF⟩ : ∃ F, F = wr.heap.size := ⟨_, rfl⟩
      rw [← hF]
      have hb4 : Below wr.heap.size wr W4 := by rw [← hW4]; exact (Below.refl _ _).alloc (Nat.le_refl _) _
      obtain ⟨b0, b1, b2, b3, b4, b5, b6, b7, b8, b9⟩ : W4.cell? ⟨F, 1, none⟩ = some (.int .i64 t.kind) ∧ W4.cell? ⟨F, 2, none⟩ = some (.int .i64 t.size) ∧ W4.cell? ⟨F, 3, none⟩ = some (.bool t.sg) ∧ W4.cell? ⟨F, 4, none⟩ = some (.bool t.sc) ∧ W4.cell? ⟨F, 5, none⟩ = some (.pointer e2) ∧ W4.cell? ⟨F, 6, none⟩ = some (.int .i64 t.len) ∧ W4.cell? ⟨F, 7, none⟩ = some (.int .i64 t.num) ∧ W4.cell? ⟨F, 8, none⟩ = some (.slice none 0 0) ∧ W4.cell? ⟨F, 9, none⟩ = some (.pointer none) ∧ W4.cell? ⟨F, 10, none⟩ = some (.int .i64 (p : Int)) := by rw [← hW4, hF]; exact ⟨cell_new _ _ _ _ _ rfl, cell_new _ _ _ _ _ rfl, cell_new _ _ _ _ _ rfl, cell_new _ _ _ _ _ rfl, cell_new _ _ _ _ _ rfl, cell_new _ _ _ _ _ rfl, cell_new _ _ _ _ _ rfl, cell_new _ _ _ _ _ rfl, cell_new _ _ _ _ _ rfl, cell_new _ _ _ _ _ rfl⟩
      have HB4 := Lib.hid hb4
      have hlw : Labs wr g (o + (at_ + p)) s (fun _ => false) := fun i hi' => by
        have h1 := HLB.out (p + i) (by omega)
        rw [show o + at_ + (p + i) = o + (at_ + p) + i from by omega] at h1
        rw [h1]
        have hbey := fieldsL_beyond HOF.out LFs j (by omega) (p + i) (by have := HLE.out.1; omega)
        rw [hbey]
      have hmp := HMK2.out s hi g o len cap (at_ + p) e2 W4 HSZ.out (by omega) hlc hcap (((HK.out.below HB1.out).turn HT.out hg).below hb4) hg (Nat.lt_of_lt_of_le hgr hb4.size) (HEL2.out.below hb4) (hlw.below hb4 hgr) (fun i => by rw [hb4.frozen (by exact hgr)]; exact HFZ.out i)
      unfold tyV at hmp
      rw [Int.natCast_add] at hmp
      have MP := Lib.hid hmp
      clear hW4 hF hb4 hlw hmp h0 h1 h2 h3 h4 h5 h6 h7 h8 h9 h10
      go_wp2_with fail
      (with_reducible refine MP.out.mono ?_)
      rintro e w7 ⟨rfl, ht7, hl7, ho7⟩
      have HT7 := Lib.hid ht7
      have HL7 := Lib.hid hl7
      have HO7 := Lib.hid ho7
      clear ht7 hl7 ho7 b0 b1 b2 b3 b4 b5 b6 b7 b8 b9 MP
      go_wp2_with fail
      go_roundw
      case rel =>
        refine ⟨j + 1, by go_num, by omega, Lib.hid ((HT.out.trans (Turn.of HB4.out hgr)).trans HT7.out), Lib.hid (fun i hi' => ?_), Lib.hid (fun i hi' => ?_)⟩
        · unfold fieldsL
          by_cases hx : off j ≤ i ∧ i < off j + sz j
          · rw [if_pos hx]
            rw [← HP.out, ← HS.out] at hx
            rw [← HP.out]
            have := HL7.out (i - p) (by omega)
            rw [show o + (at_ + p) + (i - p) = o + at_ + i from by omega] at this
            exact this
          · rw [if_neg hx]
            rw [← HP.out, ← HS.out] at hx
            rw [HO7.out (o + at_ + i) (by omega), HB4.out.cell (by exact hgr)]
            exact HLB.out i hi'
        · have hps2 := hps
          rw [HO7.out i (by omega), HB4.out.cell (by exact hgr)]
          exact HO.out i hi'
      case measure => simp [intOf]; omega
    · obtain rfl : mm = j := by omega
      go_wp2_with fail
      go_end0
      exact ⟨rfl, (Turn.of HB1.out hgl).trans HT.out, by rw [← HMM.out]; exact HLB.out, HO.out⟩
end Go.Proofs.Ytdkhanjfncbfnaa
