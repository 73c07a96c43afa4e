import Derived.Test.YtdkhanjfncbfnaaOsLK
import Derived.Test.YtdkhanjfncbfnaaCtCP
namespace Go.Proofs.Ytdkhanjfncbfnaa
open Go Go.RowKit
set_option linter.unusedVariables false
set_option linter.unusedSimpArgs false

/-- The table, as the law has built it: n structs. -/
structure TabS (w : World) (tb n : Nat) (va : Value) (SN : Nat → ByteArray) (CT : Nat → Nat) (NM : Nat → Nat → ByteArray) (TY : Nat → Nat → Ty) (SZ AL : Nat → Int) (FA : Nat → Option Addr) (FN FC GP : Nat → Nat) (EL : Nat → Nat → Option Addr) : Prop where
  w1 : TabW w tb (tb + 1) va n SN FA FN FC SZ AL
  p : PRows w (PB (tb + 1) va w) n FA FN GP CT NM TY EL SZ AL
  m : LayM n CT NM TY SZ AL
section
variable {w w' : World} {tb n : Nat} {va : Value} {SN : Nat → ByteArray} {CT : Nat → Nat} {NM : Nat → Nat → ByteArray} {TY : Nat → Nat → Ty} {SZ AL : Nat → Int} {FA : Nat → Option Addr} {FN FC GP : Nat → Nat} {EL : Nat → Nat → Option Addr}
theorem TabS.below (h : TabS w tb n va SN CT NM TY SZ AL FA FN FC GP EL) (hb : Below w.heap.size w w') : TabS w' tb n va SN CT NM TY SZ AL FA FN FC GP EL :=
  ⟨h.w1.below hb, h.p.keep (fun b hp o => hb.cell (p := ⟨b, o, none⟩) hp.2.1) (fun b hp => ⟨hp.1, Nat.lt_of_lt_of_le hp.2.1 hb.size, hp.2.2⟩), h.m⟩
/-- The table with one struct more. -/
theorem TabS.more (h : TabS w tb n va SN CT NM TY SZ AL FA FN FC GP EL) (hn : n < 20) {m : Nat} (hm1 : 1 ≤ m) (hm2 : m ≤ 20) {nm : ByteArray} {NMr : Nat → ByteArray} {TYr : Nat → Ty} (ok : ∀ i, i < m → OkT (TYr i)) (hr : RowOk n SZ AL m NMr TYr)
    {w1 : World} (hOk : ∃ e, AddOk tb (tb + 1) n va SN FA FN FC SZ AL nm m NMr TYr w e w1) :
    ∃ va' FA' FN' FC' GP' EL', TabS w1 tb (n + 1) va' (upd SN n nm) (upd CT n m) (upd NM n NMr) (upd TY n TYr) (upd SZ n (upM (endT n SZ AL TYr m) (alT n AL TYr m))) (upd AL n (alT n AL TYr m)) FA' FN' FC' GP' EL' := by
  obtain ⟨e, va', g, c, ELg, he, htab, hrow, hg1, hg2, hg3, hels, hkeep, hsz, hbt⟩ := hOk
  have htl := World.block_lt_of_cell? w _ h.w1.t
  simp at htl
  have hk1 : ∀ b, PB (tb + 1) va w b → ∀ o, w1.cell? ⟨b, o, none⟩ = w.cell? ⟨b, o, none⟩ := fun b hp o => (hkeep b hp.2.1 (by have := hp.1; omega) hp.2.2).1 o
  have hq1 : ∀ b, PB (tb + 1) va w b → PB (tb + 1) va' w1 b := fun b hp => ⟨hp.1, Nat.lt_of_lt_of_le hp.2.1 hsz, (hkeep b hp.2.1 (by have := hp.1; omega) hp.2.2).2⟩
  have hpr := h.p.keep hk1 hq1
  have hm := h.m.more hn hm1 hm2 ok hr
  have part : ∀ k, k < n + 1 → k < n ∨ k = n := fun k hk => by omega
  have eS : ∀ k, k < n → (upd SZ n (upM (endT n SZ AL TYr m) (alT n AL TYr m))) k = SZ k := fun k hk => upd_lt _ _ _ hk
  have eA : ∀ k, k < n → (upd AL n (alT n AL TYr m)) k = AL k := fun k hk => upd_lt _ _ _ hk
  have hgp : PB (tb + 1) va' w1 g := ⟨by omega, hg2, hg3⟩
  refine ⟨va', upd FA n (some ⟨g, 0, none⟩), upd FN n m, upd FC n c, upd GP n g, upd EL n ELg, htab, ⟨fun k hk => ?_, fun k hk => ?_, fun k hk => ?_⟩, hm⟩
  · rcases part k hk with h1 | rfl
    · rw [upd_lt _ _ _ h1, upd_lt _ _ _ h1, upd_lt _ _ _ h1, upd_lt _ _ _ h1]; exact hpr.a k h1
    · rw [upd_at, upd_at, upd_at, upd_at]; exact ⟨rfl, rfl, hgp⟩
  · rcases part k hk with h1 | rfl
    · rw [upd_lt _ _ _ h1, upd_lt _ _ _ h1, upd_lt _ _ _ h1, upd_lt _ _ _ h1, upd_lt _ _ _ h1, offT_congr (fun j hj => eS j (by omega)) (fun j hj => eA j (by omega))]; exact hpr.r k h1
    · rw [upd_at, upd_at, upd_at, upd_at, upd_at, offT_congr eS eA]; exact hrow
  · rcases part k hk with h1 | rfl
    · rw [upd_lt _ _ _ h1, upd_lt _ _ _ h1, upd_lt _ _ _ h1]; exact hpr.t k h1
    · rw [upd_at, upd_at, upd_at]
      intro i hi
      exact (hels i hi).keep (fun b hp o => rfl) (fun b hp => ⟨by have := hp.1; omega, hp.2.1, hp.2.2⟩)
end
/-- What the law has built so far. -/
def Built1 (w : World) (tb n : Nat) : Prop :=
  ∃ (va : Value) (SN : Nat → ByteArray) (CT : Nat → Nat) (NM : Nat → Nat → ByteArray) (TY : Nat → Nat → Ty) (SZ AL : Nat → Int) (FA : Nat → Option Addr) (FN FC GP : Nat → Nat) (EL : Nat → Nat → Option Addr), TabS w tb n va SN CT NM TY SZ AL FA FN FC GP EL
theorem Built1.below {w w' : World} {tb n : Nat} (h : Built1 w tb n) (hb : Below w.heap.size w w') : Built1 w' tb n := by
  obtain ⟨va, SN, CT, NM, TY, SZ, AL, FA, FN, FC, GP, EL, h⟩ := h
  exact ⟨va, SN, CT, NM, TY, SZ, AL, FA, FN, FC, GP, EL, h.below hb⟩
theorem Built1.lt {w : World} {tb n : Nat} (h : Built1 w tb n) : tb < w.heap.size := by
  obtain ⟨va, SN, CT, NM, TY, SZ, AL, FA, FN, FC, GP, EL, h⟩ := h
  have := World.block_lt_of_cell? w _ h.w1.t
  simpa using this
theorem built1_none {w : World} {tb : Nat} (h1 : w.cell? ⟨tb, 0, none⟩ = some (.slice none 0 0)) (h2 : w.frozen? ⟨tb, 0, none⟩ = false) : Built1 w tb 0 :=
  ⟨.slice none 0 0, fun _ => ⟨#[]⟩, fun _ => 0, fun _ _ => ⟨#[]⟩, fun _ _ => .void, fun _ => 0, fun _ => 1, fun _ => none, fun _ => 0, fun _ => 0, fun _ => 0, fun _ _ => none,
    ⟨⟨h1, h2, World.ownsRow_nil _ _ _ _⟩, ⟨fun k h => by omega, fun k h => by omega, fun k h => by omega⟩, ⟨by omega, fun k h => by omega, fun k h => by omega, fun k h => by omega, fun k h => by omega, fun k h => by omega⟩⟩⟩
def StepRes (tb : Nat) (w : World) (e : Ending) (w' : World) : Prop := (∃ a b : Int, e = .returned (.tuple #[.int .i64 a, .int .i64 b])) ∧ w.heap.size ≤ w'.heap.size ∧ Below tb w w' ∧ ∃ n, Built1 w' tb n
/-- A struct is added, or it isn't. -/
theorem one_step {w : World} {tb n : Nat} (h : Built1 w tb n) {base m : Nat} {nm : ByteArray} {vF : Value} {NMr : Nat → ByteArray} {TYr : Nat → Ty} {ELr : Nat → Option Addr} (hf : w.ownsRow base 61 11 vF m (cellsT NMr TYr ELr (fun _ => 0) m)) (hm : m ≤ 20) (h0 : m = 0 → vF = .slice none 0 0) (ok : ∀ i, i < m → OkT (TYr i)) (hel : ∀ i, i < m → ElW w (TYr i) (ELr i)) :
    Calls Try.prog 15 #[.pointer (some ⟨tb, 0, none⟩), .string nm, vF] w (StepRes tb w) := by
  have htb := h.lt
  obtain ⟨va, SN, CT, NM, TY, SZ, AL, FA, FN, FC, GP, EL, h⟩ := h
  have hn20 := h.m.n20
  have hs : ∀ j, j < n → 0 ≤ SZ j ∧ SZ j ≤ 1099511627776 := fun j hj => ⟨(h.m.range j hj).2.1, by have := (h.m.range j hj).2.2; omega⟩
  have ha : ∀ j, j < n → 1 ≤ AL j ∧ AL j ≤ 8 := fun j hj => (h.m.range j hj).1
  have same : ∀ {code : Int} {e : Ending} {w' : World}, TupRes (.tuple #[.int .i64 0, .int .i64 code]) w e w' → StepRes tb w e w' := fun {code e w'} hx => ⟨⟨0, code, hx.1⟩, hx.2.size, hx.2.mono (by omega), n, va, SN, CT, NM, TY, SZ, AL, FA, FN, FC, GP, EL, h.below hx.2⟩
  rcases name_decide SN nm n with hne | ⟨j, hj, hjn, hjm⟩
  · rcases Nat.eq_zero_or_pos m with hm0 | hm0
    · obtain rfl := h0 hm0
      subst hm0
      by_cases hcnt : n = 20
      · exact (add_count tb (tb + 1) n hn20 va SN FA FN FC SZ AL nm none 0 0 (by omega) (Or.inl hcnt) hne w h.w1).mono fun e w' hx => same hx
      · exact (add_fault tb (tb + 1) n (by omega) va SN FA FN FC SZ AL nm none 0 0 (by omega) 14 (by decide) hne w h.w1 (fun w1 hb => layOut_none tb w1)).mono fun e w' hx => same hx
    · obtain ⟨gF, cF, rfl, hgF1, hgF2⟩ := hf.form hm0
      have hfr := grow_of_owns hf
      by_cases hcnt : n = 20 ∨ 20 < m
      · exact (add_count tb (tb + 1) n hn20 va SN FA FN FC SZ AL nm _ m cF (by omega) hcnt hne w h.w1).mono fun e w' hx => same hx
      · have hn19 : n < 20 := by omega
        have hlayw : ∀ (J : Nat) (code : Int), J ≤ m → RowOk n SZ AL J NMr TYr → ((J = m ∧ code = 0) ∨ (J < m ∧ FaultAt n SZ AL NMr TYr J code)) → ∀ w1 : World, Below w.heap.size w w1 → Calls Try.prog 38 #[.pointer (some ⟨tb, 0, none⟩), .slice (some ⟨gF, 0, none⟩) m cF] w1 (LayEnd n SZ AL m NMr TYr code w1) := by
          intro J code hJ hR hD w1 hb
          obtain ⟨ta, trb, trc, _, htn⟩ := (h.w1.below hb).tab
          exact layOut_any tb trb n trc (by omega) ta SN FA FN FC SZ AL hs ha gF cF m J hm0 hm hJ NMr TYr ELr ok hR code hD w1 (Nat.lt_of_lt_of_le hgF2 hb.size) (hfr.below hb hgF2) (fun i hi => ((ElIn.elAt (hel i hi)).below hb (Nat.le_refl _)).mono (Nat.le_refl _) hb.size) htn
        rcases lay_decide n SZ AL NMr TYr m with hok | ⟨J, code, hJ, hR2, hF⟩
        · refine (add_ok tb (tb + 1) n hn19 va SN FA FN FC SZ AL nm _ m cF hm NMr TYr hne w h.w1 (by omega) (by omega) (hlayw m 0 (Nat.le_refl _) hok (Or.inl ⟨rfl, rfl⟩))).mono fun e w1 hA => ?_
          have hA0 := hA
          obtain ⟨va', g, c, ELg, he, ht1, hrow1, hg1, hg2, hg3, hels, hkeep, hsz, hbt⟩ := hA
          obtain ⟨va2, FA', FN', FC', GP', EL', hB⟩ := h.more hn19 hm0 hm ok hok ⟨e, hA0⟩
          exact ⟨⟨n, 0, he⟩, hsz, hbt, n + 1, va2, _, _, _, _, _, _, FA', FN', FC', GP', EL', hB⟩
        · have hc0 : code ≠ 0 := by rcases hF with ⟨rfl, _⟩ | ⟨rfl, _⟩ | ⟨rfl, _⟩ <;> decide
          exact (add_fault tb (tb + 1) n hn19 va SN FA FN FC SZ AL nm _ m cF hm code (by simpa using hc0) hne w h.w1 (fun w1 hb => (hlayw J code (by omega) hR2 (Or.inr ⟨hJ, hF⟩) w1 hb).mono fun e w' hx => by
              rcases hx with ⟨h1, _⟩ | ⟨_, h2, h3⟩
              · exact absurd h1 hc0
              · exact ⟨h2, h3⟩)).mono fun e w' hx => same hx
  · exact (add_twice tb (tb + 1) n hn20 va SN FA FN FC SZ AL nm _ j hj hjn hjm w h.w1).mono fun e w' hx => same hx
end Go.Proofs.Ytdkhanjfncbfnaa
