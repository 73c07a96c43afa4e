import Derived.Test.YtdkhanjfncbfnaaOsLD
import Derived.Test.YtdkhanjfncbfnaaOsCA
namespace Go.Proofs.Ytdkhanjfncbfnaa
open Go Go.RowKit
set_option linter.unusedVariables false
set_option linter.unusedSimpArgs false

/-- The labels of a struct's first fields. -/
def fieldsL (off sz : Nat → Nat) (LFs : Nat → Nat → Bool) : Nat → Nat → Bool
  | 0, _ => false
  | j + 1, i => if off j ≤ i ∧ i < off j + sz j then LFs j (i - off j) else fieldsL off sz LFs j i
/-- Where the fields of struct k stand, in natural numbers. -/
structure Offs (T : Tb) (k N : Nat) (off sz en : Nat → Nat) : Prop where
  o : ∀ j, j < T.CT k → offT k T.SZ T.AL (T.TY k) j = off j
  s : ∀ j, j < T.CT k → sizeM T.n T.SZ (T.TY k j) = sz j
  p : ∀ j, j < T.CT k → 0 < sz j
  e0 : en 0 = 0
  e : ∀ j, j < T.CT k → en (j + 1) = off j + sz j
  l : ∀ j, j < T.CT k → en j ≤ off j
  m : ∀ j, j ≤ T.CT k → en j ≤ N
theorem fieldsL_beyond {T : Tb} {k N : Nat} {off sz en : Nat → Nat} (h : Offs T k N off sz en) (LFs : Nat → Nat → Bool) : ∀ j, j ≤ T.CT k → ∀ i, en j ≤ i → fieldsL off sz LFs j i = false
  | 0, _, i, _ => rfl
  | j + 1, hj, i, hi => by
    have e := h.e j (by omega)
    have l := h.l j (by omega)
    have p := h.p j (by omega)
    unfold fieldsL
    rw [if_neg (by omega)]
    exact fieldsL_beyond h LFs j (by omega) i (by omega)

set_option maxRecDepth 100000 in
set_option maxHeartbeats 8000000 in
theorem mark_st (T : Tb) (hlay : LayT T) (k : Nat) (hkn : k < T.n) (off sz en : Nat → Nat) (LFs : Nat → Nat → Bool) (N hi g o cap : Nat) (hof : Offs T k N off sz en) (hok : ∀ j, j < T.CT k → OkT (T.TY k j)) (hmk : ∀ j, j < T.CT k → MarkOk T (T.TY k j) (LFs j))
    (hN : N ≤ cap) (hcap : cap ≤ 1000000) (w : World) (hk : TabK T hi w) (hg : hi ≤ g) (hgl : g < w.heap.size) (hl : Labs w g o N (fun _ => false)) (hz : ∀ j, w.frozen? ⟨g, j, none⟩ = false) :
    Calls Try.prog 43 #[.slice (some ⟨g, o, none⟩) N cap, .pointer (some ⟨T.tb, 0, none⟩), (.agg #[.int .i64 4, .int .i64 0, .bool false, .bool false, .pointer none, .int .i64 0, .int .i64 (k : Int), .slice none 0 0, .pointer none])] w (Paints g o N (fieldsL off sz LFs (T.CT k)) w) := by
  have HL := Lib.hid hl
  have HZ := Lib.hid hz
  have HK := Lib.hid hk
  have HOF := Lib.hid hof
  have HOK := Lib.hid hok
  have HMK := Lib.hid hmk
  have hcap9 : cap ≤ 1000000000 := by omega
  have HM20 := Lib.hid (hlay.c k hkn)
  clear hl hz hk hof hok hmk
  go_enter Try.func43, Try.ntmps43
  go_wp2_with fail
  have hb0 : Below w.heap.size w (w.alloc (.cells #[.int .i64 4, .int .i64 0, .bool false, .bool false, .pointer none, .int .i64 0, .int .i64 (k : Int), .slice none 0 0, .pointer none] 57)) := (Below.refl _ _).alloc (Nat.le_refl _) _
  (with_reducible refine (fields_k hlay k hkn _ (HK.out.below hb0) g hg (Nat.lt_of_lt_of_le hgl hb0.size)).mono ?_)
  rintro e w1 ⟨gF, cF, EL, rfl, hrow, hel, hgF1, hgF2, hb1⟩
  have HB1 : Hid (Below w.heap.size w w1) := Lib.hid (hb0.trans (hb1.mono hb0.size))
  have HROW := Lib.hid hrow
  have HEL := Lib.hid hel
  have HGF := Lib.hid (show gF < w1.heap.size ∧ gF ≠ g from by have := hb0.size; omega)
  obtain ⟨mm, hmm⟩ : ∃ mm, mm = T.CT k := ⟨_, rfl⟩
  rw [← hmm]
  have hmm20 : mm ≤ 20 := by have := HM20.out.2; omega
  have HMM := Lib.hid hmm
  clear hb0 hb1 hrow hel hgF1 hgF2 hmm
  go_wp2_with fail
  go_loopw [54] (fun s54 wr => ∃ j : Nat, s54 = .int .i64 j ∧ j ≤ mm ∧ Hid (Turn g w1 wr) ∧ Hid (Labs wr g o N (fieldsL off sz LFs j)) ∧ Hid (∀ i, i < o ∨ o + N ≤ i → wr.cell? ⟨g, i, none⟩ = w.cell? ⟨g, i, none⟩)) (fun s54 _ => mm - (intOf s54).toNat)
  case atStart => exact ⟨0, rfl, by omega, Lib.hid (Turn.refl _ _), Lib.hid (HL.out.below HB1.out hgl), Lib.hid (fun i _ => HB1.out.cell (by exact hgl))⟩
  case round =>
    obtain ⟨j, rfl, hj, HT, HLB, HO⟩ := hrel
    by_cases hlt : j < mm
    · have hjk : j < T.CT k := by rw [← HMM.out]; exact hlt
      have hjl : (j : Int) < mm := by omega
      have hrow' : GCells wr gF (j * 11) (T.NM k j) (T.TY k j) (EL j) (offT k T.SZ T.AL (T.TY k) j) := (HROW.out j hjk).same (fun o' => HT.out.cell (a := ⟨gF, o', none⟩) (by exact HGF.out.1) (by exact HGF.out.2))
      have hel' : ElG wr g (T.TY k j) (EL j) := ElG.turn (HEL.out j hjk) HT.out
      rw [HOF.out.o j hjk] at hrow'
      obtain ⟨t, ht⟩ : ∃ t, t = T.TY k j := ⟨_, rfl⟩
      obtain ⟨e2, he2⟩ : ∃ e2, e2 = EL j := ⟨_, rfl⟩
      obtain ⟨nm, hnm⟩ : ∃ nm, nm = T.NM k j := ⟨_, rfl⟩
      obtain ⟨p, hp⟩ : ∃ p, p = off j := ⟨_, rfl⟩
      obtain ⟨s, hs⟩ : ∃ s, s = sz j := ⟨_, rfl⟩
      rw [← ht, ← he2, ← hnm, ← hp] at hrow'
      rw [← ht, ← he2] at hel'
      have hmk := HMK.out j hjk
      rw [← ht] at hmk
      have hsz := HOF.out.s j hjk
      rw [← ht, ← hs] at hsz
      have hok := HOK.out j hjk
      rw [← ht] at hok
      have hen := HOF.out.e j hjk
      rw [← hp, ← hs] at hen
      have hle := HOF.out.l j hjk
      rw [← hp] at hle
      have hs0 := HOF.out.p j hjk
      rw [← hs] at hs0
      have hme := HOF.out.m (j + 1) (by omega)
      have hps : p + s ≤ N := by omega
      have HP := Lib.hid hp
      have HS := Lib.hid hs
      have HSZ := Lib.hid hsz
      have HOKT := Lib.hid hok
      have HEL2 := Lib.hid hel'
      have HMK2 := Lib.hid hmk
      have HLE := Lib.hid (And.intro hle hen)
      have hgr : g < wr.heap.size := Nat.lt_of_lt_of_le (Nat.lt_of_lt_of_le hgl HB1.out.size) HT.out.size
      have HFZ := Lib.hid (show ∀ i, wr.frozen? ⟨g, i, none⟩ = false from fun i => HT.out.fz i (by rw [HB1.out.frozen (by exact hgl)]; exact HZ.out i))
      obtain ⟨h0, h1, h2, h3, h4, h5, h6, h7, h8, h9, h10⟩ := hrow'
      clear ht he2 hnm hp hs hmk hsz hok hel' hen hle hme
      go_upto_region 17 with fail
      generalize hW4 : wr.alloc (.cells #[.string nm, .int .i64 t.kind, .int .i64 t.size, .bool t.sg, .bool t.sc, .pointer e2, .int .i64 t.len, .int .i64 t.num, .slice none 0 0, .pointer none, .int .i64 (p : Int)] 61) = W4
      obtain ⟨F, hF⟩ : ∃ F, F = wr.heap.size := ⟨_, rfl⟩
      rw [← hF]
      have hb4 : Below wr.heap.size wr W4 := by rw [← hW4]; exact (Below.refl _ _).alloc (Nat.le_refl _) _
      have SD : Hid (W4.cell? ⟨F, 1, none⟩ = some (.int .i64 t.kind) ∧ W4.cell? ⟨F, 2, none⟩ = some (.int .i64 t.size) ∧ W4.cell? ⟨F, 3, none⟩ = some (.bool t.sg) ∧ W4.cell? ⟨F, 4, none⟩ = some (.bool t.sc) ∧ W4.cell? ⟨F, 5, none⟩ = some (.pointer e2) ∧ W4.cell? ⟨F, 6, none⟩ = some (.int .i64 t.len) ∧ W4.cell? ⟨F, 7, none⟩ = some (.int .i64 t.num) ∧ W4.cell? ⟨F, 8, none⟩ = some (.slice none 0 0) ∧ W4.cell? ⟨F, 9, none⟩ = some (.pointer none) ∧ W4.cell? ⟨F, 10, none⟩ = some (.int .i64 (p : Int))) := Lib.hid (by rw [← hW4, hF]; exact ⟨cell_new _ _ _ _ _ rfl, cell_new _ _ _ _ _ rfl, cell_new _ _ _ _ _ rfl, cell_new _ _ _ _ _ rfl, cell_new _ _ _ _ _ rfl, cell_new _ _ _ _ _ rfl, cell_new _ _ _ _ _ rfl, cell_new _ _ _ _ _ rfl, cell_new _ _ _ _ _ rfl, cell_new _ _ _ _ _ rfl⟩)
      have SE : Hid (W4.drew.cell? ⟨F, 1, none⟩ = some (.int .i64 t.kind) ∧ W4.drew.cell? ⟨F, 2, none⟩ = some (.int .i64 t.size) ∧ W4.drew.cell? ⟨F, 3, none⟩ = some (.bool t.sg) ∧ W4.drew.cell? ⟨F, 4, none⟩ = some (.bool t.sc) ∧ W4.drew.cell? ⟨F, 5, none⟩ = some (.pointer e2) ∧ W4.drew.cell? ⟨F, 6, none⟩ = some (.int .i64 t.len) ∧ W4.drew.cell? ⟨F, 7, none⟩ = some (.int .i64 t.num) ∧ W4.drew.cell? ⟨F, 8, none⟩ = some (.slice none 0 0) ∧ W4.drew.cell? ⟨F, 9, none⟩ = some (.pointer none) ∧ W4.drew.cell? ⟨F, 10, none⟩ = some (.int .i64 (p : Int))) := Lib.hid SD.out
      have HFG := Lib.hid (show F ≠ g from by omega)
      have HB4 : Hid (Below wr.heap.size wr W4.drew) := Lib.hid hb4.drew
      have hkd := ((HK.out.below HB1.out).turn HT.out hg).below HB4.out
      have HKD := Lib.hid hkd
      have MSZ := Lib.hid (size_k hlay t HOKT.out e2 W4.drew hkd g (HEL2.out.below HB4.out))
      rw [HSZ.out] at MSZ
      have hlw : Labs wr g (o + p) s (fun _ => false) := fun i hi' => by
        have h1 := HLB.out (p + i) (by omega)
        rw [← Nat.add_assoc] at h1
        rw [h1]
        have hbey := fieldsL_beyond HOF.out LFs j (by omega) (p + i) (by have := HLE.out.1; omega)
        rw [hbey]
      have MMK : Hid (∀ w6, Below W4.drew.heap.size W4.drew w6 → Calls Try.prog 43 #[.slice (some ⟨g, o + p, none⟩) s (cap - p), .pointer (some ⟨T.tb, 0, none⟩), tyV t e2] w6 (Paints g (o + p) s (LFs j) w6)) := Lib.hid (fun w6 h6 => by
        have hb6 : Below wr.heap.size wr w6 := HB4.out.trans (h6.mono HB4.out.size)
        exact HMK2.out s hi g (o + p) (cap - p) e2 w6 HSZ.out (by omega) (by omega) (HKD.out.below h6) hg (Nat.lt_of_lt_of_le hgr hb6.size) (HEL2.out.below hb6) (hlw.below hb6 hgr) (fun i => by rw [hb6.frozen (by exact hgr)]; exact HFZ.out i))
      clear hW4 hF hb4 hkd hlw h0 h1 h2 h3 h4 h5 h6 h7 h8 h9 h10
      refine wp_region_held_drew (S := (fun w' => w'.cell? ⟨F, 1, none⟩ = some (.int .i64 t.kind) ∧ w'.cell? ⟨F, 2, none⟩ = some (.int .i64 t.size) ∧ w'.cell? ⟨F, 3, none⟩ = some (.bool t.sg) ∧ w'.cell? ⟨F, 4, none⟩ = some (.bool t.sc) ∧ w'.cell? ⟨F, 5, none⟩ = some (.pointer e2) ∧ w'.cell? ⟨F, 6, none⟩ = some (.int .i64 t.len) ∧ w'.cell? ⟨F, 7, none⟩ = some (.int .i64 t.num) ∧ w'.cell? ⟨F, 8, none⟩ = some (.slice none 0 0) ∧ w'.cell? ⟨F, 9, none⟩ = some (.pointer none) ∧ w'.cell? ⟨F, 10, none⟩ = some (.int .i64 (p : Int)))) (by kernel_rfl) (by (first | (with_reducible exact SD.out) | (with_reducible exact SE.out))) (fun hHeld => ?_)
      refine takeD (i := 0) (d := 58) (v := ?_) rfl rfl (by kernel_rfl) (by kernel_rfl) (by kernel_rfl) (fun _ _ _ h => h) (Or.inl ⟨by rfl, ?_⟩) (by assumption) ?_
      rotate_left
      · intro w hSw
        obtain ⟨b0, b1, b2, b3, b4, b5, b6, b7, b8, b9⟩ := hSw
        go_simp
        (try with_reducible rfl)
      (try simp only [Act.put, List.setIfInBounds_toArray, List.set_cons_zero, List.set_cons_succ])
      refine takeD (i := 1) (d := 59) (v := ?_) rfl rfl (by kernel_rfl) (by kernel_rfl) (by kernel_rfl) (fun _ _ _ h => h) (Or.inl ⟨by rfl, ?_⟩) (by assumption) ?_
      rotate_left
      · intro w hSw
        obtain ⟨b0, b1, b2, b3, b4, b5, b6, b7, b8, b9⟩ := hSw
        go_simp
        (try with_reducible rfl)
      (try simp only [Act.put, List.setIfInBounds_toArray, List.set_cons_zero, List.set_cons_succ])
      refine takeD (i := 2) (d := 60) (v := ?_) rfl rfl (by kernel_rfl) (by kernel_rfl) (by kernel_rfl) (fun _ _ _ h => h) (Or.inl ⟨by rfl, ?_⟩) (by assumption) ?_
      rotate_left
      · intro w hSw
        obtain ⟨b0, b1, b2, b3, b4, b5, b6, b7, b8, b9⟩ := hSw
        go_simp
        (try with_reducible rfl)
      (try simp only [Act.put, List.setIfInBounds_toArray, List.set_cons_zero, List.set_cons_succ])
      refine takeD (i := 3) (d := 61) (v := ?_) rfl rfl (by kernel_rfl) (by kernel_rfl) (by kernel_rfl) (fun _ _ _ h => h) (Or.inl ⟨by rfl, ?_⟩) (by assumption) ?_
      rotate_left
      · intro w hSw
        obtain ⟨b0, b1, b2, b3, b4, b5, b6, b7, b8, b9⟩ := hSw
        go_simp
        (try with_reducible rfl)
      (try simp only [Act.put, List.setIfInBounds_toArray, List.set_cons_zero, List.set_cons_succ])
      refine takeD (i := 4) (d := 62) (v := ?_) rfl rfl (by kernel_rfl) (by kernel_rfl) (by kernel_rfl) (fun _ _ _ h => h) (Or.inl ⟨by rfl, ?_⟩) (by assumption) ?_
      rotate_left
      · intro w hSw
        obtain ⟨b0, b1, b2, b3, b4, b5, b6, b7, b8, b9⟩ := hSw
        go_simp
        (try with_reducible rfl)
      (try simp only [Act.put, List.setIfInBounds_toArray, List.set_cons_zero, List.set_cons_succ])
      refine takeD (i := 5) (d := 63) (v := ?_) rfl rfl (by kernel_rfl) (by kernel_rfl) (by kernel_rfl) (fun _ _ _ h => h) (Or.inl ⟨by rfl, ?_⟩) (by assumption) ?_
      rotate_left
      · intro w hSw
        obtain ⟨b0, b1, b2, b3, b4, b5, b6, b7, b8, b9⟩ := hSw
        go_simp
        (try with_reducible rfl)
      (try simp only [Act.put, List.setIfInBounds_toArray, List.set_cons_zero, List.set_cons_succ])
      refine takeD (i := 8) (d := 66) (v := ?_) rfl rfl (by kernel_rfl) (by kernel_rfl) (by kernel_rfl) (fun _ _ _ h => h) (Or.inl ⟨by rfl, ?_⟩) (by assumption) ?_
      rotate_left
      · intro w hSw
        obtain ⟨b0, b1, b2, b3, b4, b5, b6, b7, b8, b9⟩ := hSw
        go_simp
        (try with_reducible rfl)
      (try simp only [Act.put, List.setIfInBounds_toArray, List.set_cons_zero, List.set_cons_succ])
      refine takeD (i := 9) (d := 67) (v := ?_) rfl rfl (by kernel_rfl) (by kernel_rfl) (by kernel_rfl) (fun _ _ _ h => h) (Or.inl ⟨by rfl, ?_⟩) (by assumption) ?_
      rotate_left
      · intro w hSw
        obtain ⟨b0, b1, b2, b3, b4, b5, b6, b7, b8, b9⟩ := hSw
        go_simp
        (try with_reducible rfl)
      (try simp only [Act.put, List.setIfInBounds_toArray, List.set_cons_zero, List.set_cons_succ])
      refine takeD (i := 10) (d := 68) (v := ?_) rfl rfl (by kernel_rfl) (by kernel_rfl) (by kernel_rfl) (fun _ _ _ h => h) (Or.inl ⟨by rfl, ?_⟩) (by assumption) ?_
      rotate_left
      · intro w hSw
        obtain ⟨b0, b1, b2, b3, b4, b5, b6, b7, b8, b9⟩ := hSw
        go_simp
        (try with_reducible rfl)
      (try simp only [Act.put, List.setIfInBounds_toArray, List.set_cons_zero, List.set_cons_succ])
      refine wpAnyH_ready (rs := [6]) (by kernel_rfl) (by simp) ?_
      refine AllReadyH.cons rfl (fun K hK => ?_) AllReadyH.nil
      go_simp
      have HM := MSZ.out
      unfold tyV at HM
      (with_reducible refine HM.mono ?_)
      rintro e w5 ⟨rfl, hb5⟩
      have HB5 := Lib.hid hb5
      have HDD := SE.out
      clear SD SE HM hb5
      have SD : Hid (w5.cell? ⟨F, 1, none⟩ = some (.int .i64 t.kind) ∧ w5.cell? ⟨F, 2, none⟩ = some (.int .i64 t.size) ∧ w5.cell? ⟨F, 3, none⟩ = some (.bool t.sg) ∧ w5.cell? ⟨F, 4, none⟩ = some (.bool t.sc) ∧ w5.cell? ⟨F, 5, none⟩ = some (.pointer e2) ∧ w5.cell? ⟨F, 6, none⟩ = some (.int .i64 t.len) ∧ w5.cell? ⟨F, 7, none⟩ = some (.int .i64 t.num) ∧ w5.cell? ⟨F, 8, none⟩ = some (.slice none 0 0) ∧ w5.cell? ⟨F, 9, none⟩ = some (.pointer none) ∧ w5.cell? ⟨F, 10, none⟩ = some (.int .i64 (p : Int))) := Lib.hid (by
        obtain ⟨b0, b1, b2, b3, b4, b5, b6, b7, b8, b9⟩ := HDD
        exact ⟨by rw [HB5.out.cell (by exact lt_of_cellC b0)]; exact b0, by rw [HB5.out.cell (by exact lt_of_cellC b0)]; exact b1, by rw [HB5.out.cell (by exact lt_of_cellC b0)]; exact b2, by rw [HB5.out.cell (by exact lt_of_cellC b0)]; exact b3, by rw [HB5.out.cell (by exact lt_of_cellC b0)]; exact b4, by rw [HB5.out.cell (by exact lt_of_cellC b0)]; exact b5, by rw [HB5.out.cell (by exact lt_of_cellC b0)]; exact b6, by rw [HB5.out.cell (by exact lt_of_cellC b0)]; exact b7, by rw [HB5.out.cell (by exact lt_of_cellC b0)]; exact b8, by rw [HB5.out.cell (by exact lt_of_cellC b0)]; exact b9⟩)
      clear HDD
      have SE : Hid (w5.drew.cell? ⟨F, 1, none⟩ = some (.int .i64 t.kind) ∧ w5.drew.cell? ⟨F, 2, none⟩ = some (.int .i64 t.size) ∧ w5.drew.cell? ⟨F, 3, none⟩ = some (.bool t.sg) ∧ w5.drew.cell? ⟨F, 4, none⟩ = some (.bool t.sc) ∧ w5.drew.cell? ⟨F, 5, none⟩ = some (.pointer e2) ∧ w5.drew.cell? ⟨F, 6, none⟩ = some (.int .i64 t.len) ∧ w5.drew.cell? ⟨F, 7, none⟩ = some (.int .i64 t.num) ∧ w5.drew.cell? ⟨F, 8, none⟩ = some (.slice none 0 0) ∧ w5.drew.cell? ⟨F, 9, none⟩ = some (.pointer none) ∧ w5.drew.cell? ⟨F, 10, none⟩ = some (.int .i64 (p : Int))) := Lib.hid SD.out
      refine hK.out _ _ ?_ (fun hHeld2 => ?_)
      · (first | (with_reducible exact SD.out) | (with_reducible exact SE.out))
      clear hHeld hK K
      have hHeld := hHeld2
      clear hHeld2
      (try simp only [Act.put, List.setIfInBounds_toArray, List.set_cons_zero, List.set_cons_succ])
      refine wpAnyH_ready (rs := [7]) (by kernel_rfl) (by simp) ?_
      refine AllReadyH.cons rfl (fun K hK => ?_) AllReadyH.nil
      go_simp
      (with_reducible refine (within_any g o N cap p s hps hs0 hN hcap9 _).mono ?_)
      rintro e w6 ⟨rfl, rfl⟩
      refine hK.out _ _ ?_ (fun hHeld2 => ?_)
      · (first | (with_reducible exact SD.out) | (with_reducible exact SE.out))
      clear hHeld hK K
      have hHeld := hHeld2
      clear hHeld2
      (try simp only [Act.put, List.setIfInBounds_toArray, List.set_cons_zero, List.set_cons_succ])
      refine wpAnyH_ready (rs := [11]) (by kernel_rfl) (by simp) ?_
      refine AllReadyH.cons rfl (fun K hK => ?_) AllReadyH.nil
      go_simp
      have HM := MMK.out w6 HB5.out
      unfold tyV at HM
      (with_reducible refine HM.mono ?_)
      rintro e w7 ⟨rfl, ht7, hl7, ho7⟩
      have HT7 := Lib.hid ht7
      have HL7 := Lib.hid hl7
      have HO7 := Lib.hid ho7
      have HDD := SE.out
      clear SD SE HM ht7 hl7 ho7
      have SD : Hid (w7.cell? ⟨F, 1, none⟩ = some (.int .i64 t.kind) ∧ w7.cell? ⟨F, 2, none⟩ = some (.int .i64 t.size) ∧ w7.cell? ⟨F, 3, none⟩ = some (.bool t.sg) ∧ w7.cell? ⟨F, 4, none⟩ = some (.bool t.sc) ∧ w7.cell? ⟨F, 5, none⟩ = some (.pointer e2) ∧ w7.cell? ⟨F, 6, none⟩ = some (.int .i64 t.len) ∧ w7.cell? ⟨F, 7, none⟩ = some (.int .i64 t.num) ∧ w7.cell? ⟨F, 8, none⟩ = some (.slice none 0 0) ∧ w7.cell? ⟨F, 9, none⟩ = some (.pointer none) ∧ w7.cell? ⟨F, 10, none⟩ = some (.int .i64 (p : Int))) := Lib.hid (by
        obtain ⟨b0, b1, b2, b3, b4, b5, b6, b7, b8, b9⟩ := HDD
        exact ⟨by rw [HT7.out.cell (by exact lt_of_cellC b0) (by exact HFG.out)]; exact b0, by rw [HT7.out.cell (by exact lt_of_cellC b0) (by exact HFG.out)]; exact b1, by rw [HT7.out.cell (by exact lt_of_cellC b0) (by exact HFG.out)]; exact b2, by rw [HT7.out.cell (by exact lt_of_cellC b0) (by exact HFG.out)]; exact b3, by rw [HT7.out.cell (by exact lt_of_cellC b0) (by exact HFG.out)]; exact b4, by rw [HT7.out.cell (by exact lt_of_cellC b0) (by exact HFG.out)]; exact b5, by rw [HT7.out.cell (by exact lt_of_cellC b0) (by exact HFG.out)]; exact b6, by rw [HT7.out.cell (by exact lt_of_cellC b0) (by exact HFG.out)]; exact b7, by rw [HT7.out.cell (by exact lt_of_cellC b0) (by exact HFG.out)]; exact b8, by rw [HT7.out.cell (by exact lt_of_cellC b0) (by exact HFG.out)]; exact b9⟩)
      clear HDD
      have SE : Hid (w7.drew.cell? ⟨F, 1, none⟩ = some (.int .i64 t.kind) ∧ w7.drew.cell? ⟨F, 2, none⟩ = some (.int .i64 t.size) ∧ w7.drew.cell? ⟨F, 3, none⟩ = some (.bool t.sg) ∧ w7.drew.cell? ⟨F, 4, none⟩ = some (.bool t.sc) ∧ w7.drew.cell? ⟨F, 5, none⟩ = some (.pointer e2) ∧ w7.drew.cell? ⟨F, 6, none⟩ = some (.int .i64 t.len) ∧ w7.drew.cell? ⟨F, 7, none⟩ = some (.int .i64 t.num) ∧ w7.drew.cell? ⟨F, 8, none⟩ = some (.slice none 0 0) ∧ w7.drew.cell? ⟨F, 9, none⟩ = some (.pointer none) ∧ w7.drew.cell? ⟨F, 10, none⟩ = some (.int .i64 (p : Int))) := Lib.hid SD.out
      refine hK.out _ _ ?_ (fun hHeld2 => ?_)
      · (first | (with_reducible exact SD.out) | (with_reducible exact SE.out))
      clear hHeld hK K
      have hHeld := hHeld2
      clear hHeld2
      (try simp only [Act.put, List.setIfInBounds_toArray, List.set_cons_zero, List.set_cons_succ])
      refine wpAnyH_done (by kernel_rfl) ?_ _
      clear hHeld
      clear SD SE
      have HB7 := Lib.hid HB5.out
      go_wp2_with fail
      go_roundw
      case rel =>
        have hb45 : Below wr.heap.size wr w6 := HB4.out.trans (HB5.out.mono HB4.out.size)
        refine ⟨j + 1, by go_num, by omega, Lib.hid ((HT.out.trans (Turn.of hb45 hgr)).trans HT7.out), Lib.hid (fun i hi' => ?_), Lib.hid (fun i hi' => ?_)⟩
        · unfold fieldsL
          by_cases hx : off j ≤ i ∧ i < off j + sz j
          · rw [if_pos hx]
            rw [← HP.out, ← HS.out] at hx
            rw [← HP.out]
            have := HL7.out (i - p) (by omega)
            rw [show o + p + (i - p) = o + i from by omega] at this
            exact this
          · rw [if_neg hx]
            rw [← HP.out, ← HS.out] at hx
            rw [HO7.out (o + i) (by omega), hb45.cell (by exact hgr)]
            exact HLB.out i hi'
        · have hps2 := hps
          rw [HO7.out i (by omega), hb45.cell (by exact hgr)]
          exact HO.out i hi'
      case measure => simp [intOf]; omega
    · obtain rfl : mm = j := by omega
      go_wp2_with fail
      go_end0
      exact ⟨rfl, (Turn.of HB1.out hgl).trans HT.out, by rw [← HMM.out]; exact HLB.out, HO.out⟩
end Go.Proofs.Ytdkhanjfncbfnaa
