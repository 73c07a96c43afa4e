import Derived.Test.YtoajcggiccfaiaaDoorCtCP
namespace Go.Proofs.YtoajcggiccfaiaaDoor
open Go Go.RowKit
set_option linter.unusedVariables false
set_option linter.unusedSimpArgs false

section
variable {w : World} {tb n lb lc : Nat} {va : Value} {la : Option Addr} {SN : Nat → ByteArray} {CT : Nat → Nat} {NM : Nat → Nat → ByteArray} {TY : Nat → Nat → Ty} {SZ AL : Nat → Int} {FA : Nat → Option Addr} {FN FC GP : Nat → Nat} {ELP : Nat → Nat → Option Addr} {RV : Nat → Option Addr × Nat × Nat} {G CC : Nat → Nat} {ELR : Nat → Nat → Option Addr}
/-- What the reference's Add asks of its helpers. -/
theorem helpers (h : LayM n CT NM TY SZ AL) {m : Nat} {TYr : Nat → Ty} {ELr : Nat → Option Addr} (ok : ∀ i, i < m → OkT (TYr i)) (hm30 : m ≤ 30) (nm : ByteArray) {vNa vTa : Option Addr} {gN gT : Nat} {NMr : Nat → ByteArray} :
    (∀ i, i < m → ∀ w : World, RTab w lb n lc la SN RV G CT CC TY ELR → RArg w m vNa vTa gN gT NMr TYr ELr → Calls Tryd.prog 9 #[.slice la n lc, tyV (TYr i) (ELr i)] w (IntRes (sizeM n SZ (TYr i)) w))
    ∧ (∀ i, i < m → (∀ j, j ≤ i → sizeM n SZ (TYr j) ≠ 0) → ∀ (w : World) (lb' lc' : Nat) (RV' : Nat → Option Addr × Nat × Nat) (G' CC' : Nat → Nat), RTab w lb' (n + 1) lc' (some ⟨lb', 0, none⟩) (upd SN n nm) RV' G' (upd CT n (i + 1)) CC' (upd TY n TYr) (upd ELR n ELr) →
      Calls Tryd.prog 29 #[.slice (some ⟨lb', 0, none⟩) (n + 1) lc', .int .i64 n, .int .i64 ((i : Int) + 1)] w (IntRes (endT n SZ AL TYr (i + 1)) w)) := by
  have hn := h.n20
  have hs : ∀ j, j < n → 0 ≤ SZ j ∧ SZ j ≤ 1099511627776 := fun j hj => ⟨(h.range j hj).2.1, by have := (h.range j hj).2.2; omega⟩
  have ha : ∀ j, j < n → 1 ≤ AL j ∧ AL j ≤ 8 := fun j hj => (h.range j hj).1
  refine ⟨fun i hi w hw hr => ?_, fun i hi hz w lb' lc' RV' G' CC' hw => ?_⟩
  · exact (ref_ty lb n lc la SN RV G CT CC TY ELR (by omega) n (Nat.le_refl _) SZ AL hs ha (fun j hj => ref_st lb n lc la SN RV G CT CC TY ELR (by omega) n (Nat.le_refl _) NM SZ AL h j hj) (TYr i) (ok i hi) (ref_all_of n _) (ELr i) w hw (hr.t i hi).2).1
  · have h2 : LayM n (upd CT n (i + 1)) NM (upd TY n TYr) SZ AL := h.congr (fun k hk => upd_lt _ _ _ hk) (fun k hk => rfl) (fun k hk => upd_lt _ _ _ hk) (fun k hk => rfl) (fun k hk => rfl)
    have hc : upd CT n (i + 1) n = i + 1 := upd_at _ _ _
    have := (ref_end lb' (n + 1) lc' (some ⟨lb', 0, none⟩) (upd SN n nm) RV' G' (upd CT n (i + 1)) CC' (upd TY n TYr) (upd ELR n ELr) (by omega) n (by omega) (by rw [hc]; omega) SZ AL hs ha (fun j hj => ref_st lb' (n + 1) lc' (some ⟨lb', 0, none⟩) (upd SN n nm) RV' G' (upd CT n (i + 1)) CC' (upd TY n TYr) (upd ELR n ELr) (by omega) n (by omega) NM SZ AL h2 j hj) (fun j hj => by
      rw [hc] at hj
      rw [upd_at]
      exact ⟨ok j (by omega), ref_of_size n (n + 1) SZ _ (ok j (by omega)) (hz j (by omega))⟩) (i + 1) (by rw [hc]; exact Nat.le_refl _) w hw).1
    rw [upd_at] at this
    exact this

/-- A round's end: both Adds answer alike: a fault, or one struct more. -/
theorem both_step (h : Both w tb n va lb lc la SN CT NM TY SZ AL FA FN FC GP ELP RV G CC ELR) (hnil : n = 0 → la = none ∧ lc = 0) {R m : Nat} {nm : ByteArray} {vN vT vF : Value} {NMr : Nat → ByteArray} {TYr : Nat → Ty} {ELr : Nat → Option Addr}
    (hrow : RowSt w R nm vN vT vN m vT m vF m m NMr TYr ELr) (hm : m ≤ 30) (h0 : m = 0 → vN = .slice none 0 0 ∧ vT = .slice none 0 0 ∧ vF = .slice none 0 0) (ok : ∀ i, i < m → OkT (TYr i)) (hR : ∀ g, va.ownBlock = some g → g < R) (htR : tb < R) :
    (∃ code : Int, (code == 0) = false ∧ Calls Tryd.prog 19 #[.pointer (some ⟨tb, 0, none⟩), .string nm, vF] w (TupRes (.tuple #[.int .i64 0, .int .i64 code]) w)
      ∧ ∀ w1 : World, Below w.heap.size w w1 → Calls Tryd.prog 21 #[.slice la n lc, .agg #[.string nm, vN, vT]] w1 (TupRes (.tuple #[.slice la n lc, .int .i64 code]) w1))
    ∨ (n < 20 ∧ (Calls Tryd.prog 19 #[.pointer (some ⟨tb, 0, none⟩), .string nm, vF] w fun e w1 => e = .returned (.tuple #[.int .i64 n, .int .i64 0]) ∧ Below tb w w1 ∧ w.heap.size ≤ w1.heap.size ∧ (w1.cell? ⟨R, 0, none⟩ = some (.string nm) ∧ w1.cell? ⟨R, 1, none⟩ = some vN ∧ w1.cell? ⟨R, 2, none⟩ = some vT)
        ∧ Calls Tryd.prog 21 #[.slice la n lc, .agg #[.string nm, vN, vT]] w1 fun e w2 => ∃ lb' lc', e = .returned (.tuple #[.slice (some ⟨lb', 0, none⟩) (n + 1) lc', .int .i64 0]) ∧ Below w1.heap.size w1 w2 ∧
          ∃ va' FA' FN' FC' GP' ELP' CT' NM' TY' SZ' AL' RV' G' CC' ELR', Both w2 tb (n + 1) va' lb' lc' (some ⟨lb', 0, none⟩) (upd SN n nm) CT' NM' TY' SZ' AL' FA' FN' FC' GP' ELP' RV' G' CC' ELR')) := by
  have hn20 := h.m.n20
  have hs : ∀ j, j < n → 0 ≤ SZ j ∧ SZ j ≤ 1099511627776 := fun j hj => ⟨(h.m.range j hj).2.1, by have := (h.m.range j hj).2.2; omega⟩
  have ha : ∀ j, j < n → 1 ≤ AL j ∧ AL j ≤ 8 := fun j hj => (h.m.range j hj).1
  have hRl : R < w.heap.size := by have := World.block_lt_of_cell? w _ hrow.c0; simpa using this
  have htb : tb + 1 ≤ w.heap.size := by omega
  have htab : ∀ w1 : World, Below w.heap.size w w1 → RTab w1 lb n lc la SN RV G CT CC TY ELR := fun w1 hb => (h.r.tab (fun b hb => hb.2.1)).below hb
  -- the three rows' values
  rcases Nat.eq_zero_or_pos m with hm0 | hm0
  · obtain ⟨rfl, rfl, rfl⟩ := h0 hm0
    subst hm0
    rcases name_decide SN nm n with hne | ⟨j, hj, hjn, hjm⟩
    · by_cases hcnt : n = 20
      · exact Or.inl ⟨4, by decide, add_count tb (tb + 1) n hn20 va SN FA FN FC SZ AL nm none 0 0 (by omega) (Or.inl hcnt) hne w h.w1, fun w1 hb => radd_count lb n lc la SN RV G CT CC TY ELR hn20 nm none none 0 0 0 (by omega) (Or.inl hcnt) hne w1 (htab w1 hb)⟩
      · have hn19 : n < 20 := by omega
        obtain ⟨H1, H2⟩ := helpers (lb := lb) (lc := lc) (la := la) (SN := SN) (RV := RV) (G := G) (CC := CC) (ELR := ELR) h.m ok hm nm (ELr := ELr) (vNa := none) (vTa := none) (gN := 0) (gT := 0) (NMr := NMr)
        refine Or.inl ⟨14, by decide, ?_, fun w1 hb => ?_⟩
        · exact add_fault tb (tb + 1) n hn19 va SN FA FN FC SZ AL nm none 0 0 (by omega) 14 (by decide) hne w h.w1 (fun w1 hb => layOut_none tb w1)
        · refine (radd_any lb n lc la SN RV G CT CC TY ELR hn19 hnil nm none none 0 0 0 0 0 (by omega) NMr TYr ELr SZ AL 0 (Nat.le_refl _) 14 ⟨fun i hi => by omega, fun i hi => by omega, fun i hi => by omega⟩ (Or.inr (Or.inr ⟨rfl, rfl, rfl⟩)) H1 H2 hne w1 (htab w1 hb) ⟨fun h => by omega, fun h => by omega, fun i hi => by omega, fun i hi => by omega⟩).mono fun e w' hx => ?_
          rcases hx with ⟨h1, _⟩ | ⟨_, h2, h3⟩
          · exact absurd h1 (by decide)
          · exact ⟨h2, h3⟩
    · exact Or.inl ⟨13, by decide, add_twice tb (tb + 1) n hn20 va SN FA FN FC SZ AL nm _ j hj hjn hjm w h.w1, fun w1 hb => radd_twice lb n lc la SN RV G CT CC TY ELR hn20 nm _ _ ⟨_, _, _, rfl⟩ ⟨_, _, _, rfl⟩ j hj hjn hjm w1 (htab w1 hb)⟩
  · obtain ⟨gN, cN, rfl, hgN1, hgN2⟩ := hrow.n.form hm0
    obtain ⟨gT, cT, rfl, hgT1, hgT2⟩ := hrow.t.form hm0
    obtain ⟨gF, cF, rfl, hgF1, hgF2⟩ := hrow.f.form hm0
    have harg : RArg w m (some ⟨gN, 0, none⟩) (some ⟨gT, 0, none⟩) gN gT NMr TYr ELr := ⟨fun _ => ⟨rfl, rfl⟩, fun _ => ⟨hgN2, hgT2⟩, names_of_owns hrow.n, fun i hi => ⟨types_of_owns hrow.t i hi, (hrow.e i hi).elAt⟩⟩
    have hfr := grow_of_owns hrow.f
    rcases name_decide SN nm n with hne | ⟨j, hj, hjn, hjm⟩
    · by_cases hcnt : n = 20 ∨ 20 < m
      · exact Or.inl ⟨4, by decide, add_count tb (tb + 1) n hn20 va SN FA FN FC SZ AL nm _ m cF (by omega) hcnt hne w h.w1, fun w1 hb => radd_count lb n lc la SN RV G CT CC TY ELR hn20 nm _ _ m cN cT (by omega) hcnt hne w1 (htab w1 hb)⟩
      · have hn19 : n < 20 := by omega
        have hm20 : m ≤ 20 := by omega
        obtain ⟨H1, H2⟩ := helpers (lb := lb) (lc := lc) (la := la) (SN := SN) (RV := RV) (G := G) (CC := CC) (ELR := ELR) h.m ok hm nm (ELr := ELr) (vNa := some ⟨gN, 0, none⟩) (vTa := some ⟨gT, 0, none⟩) (gN := gN) (gT := gT) (NMr := NMr)
        have hlayw : ∀ (J : Nat) (code : Int), J ≤ m → RowOk n SZ AL J NMr TYr → ((J = m ∧ code = 0) ∨ (J < m ∧ FaultAt n SZ AL NMr TYr J code)) → ∀ w1 : World, Below w.heap.size w w1 → Calls Tryd.prog 36 #[.pointer (some ⟨tb, 0, none⟩), .slice (some ⟨gF, 0, none⟩) m cF] w1 (LayEnd n SZ AL m NMr TYr code w1) := by
          intro J code hJ hR hD w1 hb
          obtain ⟨ta, trb, trc, _, htn⟩ := (h.w1.below hb).tab
          exact layOut_any tb trb n trc (by omega) ta SN FA FN FC SZ AL hs ha gF cF m J hm0 hm20 hJ NMr TYr ELr ok hR code hD w1 (Nat.lt_of_lt_of_le hgF2 hb.size) (hfr.below hb hgF2) (fun i hi => ((hrow.e i hi).elAt.below hb (Nat.le_refl _)).mono (Nat.le_refl _) hb.size) htn
        rcases lay_decide n SZ AL NMr TYr m with hok | ⟨J, code, hJ, hR2, hF⟩
        · refine Or.inr ⟨hn19, ?_⟩
          refine (add_ok tb (tb + 1) n hn19 va SN FA FN FC SZ AL nm _ m cF hm20 NMr TYr hne w h.w1 htb (by omega) (hlayw m 0 (Nat.le_refl _) hok (Or.inl ⟨rfl, rfl⟩))).mono fun e w1 hA => ?_
          have hA0 := hA
          obtain ⟨va', g, c, EL, he, ht1, hrow1, hg1, hg2, hg3, hels, hkeep, hsz, hbt⟩ := hA
          have hnv : ∀ b, R ≤ b → va.ownBlock ≠ some b := fun b hb e => by have := hR b e; omega
          have hk : ∀ b, b < w.heap.size → R ≤ b → ∀ o, w1.cell? ⟨b, o, none⟩ = w.cell? ⟨b, o, none⟩ := fun b h1 h2 o => (hkeep b h1 (by omega) (hnv b h2)).1 o
          have hq1 : ∀ b, PB (tb + 1) va w b → ∀ o, w1.cell? ⟨b, o, none⟩ = w.cell? ⟨b, o, none⟩ := fun b hp o => (hkeep b hp.2.1 (by have := hp.1; omega) hp.2.2).1 o
          have hrt1 : RTab w1 lb n lc la SN RV G CT CC TY ELR := (h.r.keep (Q := fun b => b < w1.heap.size) hq1 (fun b hp => Nat.lt_of_lt_of_le hp.2.1 hsz)).tab (fun b hb => hb)
          have hra1 : RArg w1 m (some ⟨gN, 0, none⟩) (some ⟨gT, 0, none⟩) gN gT NMr TYr ELr := ⟨harg.a, fun _ => ⟨Nat.lt_of_lt_of_le hgN2 hsz, Nat.lt_of_lt_of_le hgT2 hsz⟩, fun i hi => by rw [hk gN hgN2 (by omega)]; exact harg.n i hi,
            fun i hi => ⟨(harg.t i hi).1.same (hk gT hgT2 (by omega)), ((hrow.e i hi).keep (Q := fun b => b < w1.heap.size) (fun b hp o => hk b hp.2.1 (by have := hp.1; omega) o) (fun b hp => Nat.lt_of_lt_of_le hp.2.1 hsz)).elAt⟩⟩
          refine ⟨he, hbt, hsz, ⟨by rw [hk R hRl (Nat.le_refl _)]; exact hrow.c0, by rw [hk R hRl (Nat.le_refl _)]; exact hrow.c1, by rw [hk R hRl (Nat.le_refl _)]; exact hrow.c2⟩, ?_⟩
          refine (radd_any lb n lc la SN RV G CT CC TY ELR hn19 hnil nm _ _ gN gT m cN cT hm20 NMr TYr ELr SZ AL m (Nat.le_refl _) 0 hok (Or.inl ⟨rfl, hm0, rfl⟩) H1 H2 hne w1 hrt1 hra1).mono fun e2 w2 hB => ?_
          rcases hB with ⟨_, lb', lc', he2, hown, hb2⟩ | ⟨hx, _⟩
          · refine ⟨lb', lc', he2, hb2, ?_⟩
            obtain ⟨va2, FA', FN', FC', GP', ELP', hB2⟩ := h.more hn19 hm0 hm20 ok hok hne (Below.refl _ _) ⟨e, hA0⟩ (vNa := some ⟨gN, 0, none⟩) (vTa := some ⟨gT, 0, none⟩) (gN := gN) (gT := gT) (cN := cN) (cT := cT) rfl hown (Nat.le_refl _) hb2
              ⟨by omega, hgN2, hnv gN (by omega)⟩ ⟨by omega, hgT2, hnv gT (by omega)⟩ harg.n (fun i hi => ⟨(harg.t i hi).1, (hrow.e i hi).mono (fun b hp => ⟨by have := hp.1; omega, hp.2.1, hnv b (by have := hp.1; omega)⟩)⟩)
            exact ⟨va2, FA', FN', FC', GP', ELP', _, _, _, _, _, _, _, _, _, hB2⟩
          · exact absurd rfl hx
        · have hc0 : code ≠ 0 := by rcases hF with ⟨rfl, _⟩ | ⟨rfl, _⟩ | ⟨rfl, _⟩ <;> decide
          refine Or.inl ⟨code, by simpa using hc0, ?_, fun w1 hb => ?_⟩
          · exact add_fault tb (tb + 1) n hn19 va SN FA FN FC SZ AL nm _ m cF hm20 code (by simpa using hc0) hne w h.w1 (fun w1 hb => (hlayw J code (by omega) hR2 (Or.inr ⟨hJ, hF⟩) w1 hb).mono fun e w' hx => by
              rcases hx with ⟨h1, _⟩ | ⟨_, h2, h3⟩
              · exact absurd h1 hc0
              · exact ⟨h2, h3⟩)
          · refine (radd_any lb n lc la SN RV G CT CC TY ELR hn19 hnil nm _ _ gN gT m cN cT hm20 NMr TYr ELr SZ AL J (by omega) code hR2 (Or.inr (Or.inl ⟨hJ, hF⟩)) H1 H2 hne w1 (htab w1 hb) (harg.below hb)).mono fun e w' hx => ?_
            rcases hx with ⟨h1, _⟩ | ⟨_, h2, h3⟩
            · exact absurd h1 hc0
            · exact ⟨h2, h3⟩
    · exact Or.inl ⟨13, by decide, add_twice tb (tb + 1) n hn20 va SN FA FN FC SZ AL nm _ j hj hjn hjm w h.w1, fun w1 hb => radd_twice lb n lc la SN RV G CT CC TY ELR hn20 nm _ _ ⟨_, _, _, rfl⟩ ⟨_, _, _, rfl⟩ j hj hjn hjm w1 (htab w1 hb)⟩
end
end Go.Proofs.YtoajcggiccfaiaaDoor
