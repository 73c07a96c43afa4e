import Derived.Test.YtoajcggiccfaiaaDoorCtCK
import Derived.Test.YtoajcggiccfaiaaDoorCtCB
namespace Go.Proofs.YtoajcggiccfaiaaDoor
open Go Go.RowKit
set_option linter.unusedVariables false
set_option linter.unusedSimpArgs false

/-- The struct that is being put together at block R: i names, j types. -/
structure RPart (w : World) (R : Nat) (nm : ByteArray) (vN : Value) (i : Nat) (vT : Value) (j : Nat) (NM : Nat → ByteArray) (TY : Nat → Ty) (EL : Nat → Option Addr) : Prop where
  c0 : w.cell? ⟨R, 0, none⟩ = some (.string nm)
  c1 : w.cell? ⟨R, 1, none⟩ = some vN
  c2 : w.cell? ⟨R, 2, none⟩ = some vT
  f1 : w.frozen? ⟨R, 1, none⟩ = false
  f2 : w.frozen? ⟨R, 2, none⟩ = false
  n : w.ownsRow (R + 1) 9 1 vN i (namesL NM i)
  t : w.ownsRow (R + 1) 34 9 vT j (typesL TY EL j)
theorem RPart.below {w w' : World} {R : Nat} {nm : ByteArray} {vN vT : Value} {i j : Nat} {NM : Nat → ByteArray} {TY : Nat → Ty} {EL : Nat → Option Addr} (h : RPart w R nm vN i vT j NM TY EL) (hb : Below w.heap.size w w') (hl : R < w.heap.size) : RPart w' R nm vN i vT j NM TY EL :=
  ⟨by rw [hb.cell (by exact hl)]; exact h.c0, by rw [hb.cell (by exact hl)]; exact h.c1, by rw [hb.cell (by exact hl)]; exact h.c2, by rw [hb.frozen (by exact hl)]; exact h.f1, by rw [hb.frozen (by exact hl)]; exact h.f2, ownsRow_below h.n hb, ownsRow_below h.t hb⟩
def PartN (Y : World) (R : Nat) (nm : ByteArray) (i : Nat) (vT : Value) (NM : Nat → ByteArray) (TY : Nat → Ty) (EL : Nat → Option Addr) (wx : World) : Prop :=
  ∃ g c, RPart wx R nm (.slice (some ⟨g, 0, none⟩) (i + 1) c) (i + 1) vT i NM TY EL ∧ Below R Y wx
def PartT (Y : World) (R : Nat) (nm : ByteArray) (i : Nat) (vN : Value) (NM : Nat → ByteArray) (TY : Nat → Ty) (EL : Nat → Option Addr) (wx : World) : Prop :=
  ∃ g c, RPart wx R nm vN (i + 1) (.slice (some ⟨g, 0, none⟩) (i + 1) c) (i + 1) NM TY EL ∧ Below R Y wx
def PartM (Y : World) (base lb' N lc' : Nat) (RN : Nat → ByteArray) (RV : Nat → Option Addr × Nat × Nat) (G CT CC : Nat → Nat) (wx : World) : Prop :=
  wx.ownsRow base 65 3 (.slice (some ⟨lb', 0, none⟩) (N + 1) lc') (N + 1) (recs3 RN RV G CT CC (N + 1)) ∧ Below Y.heap.size Y wx

theorem RPart.addN {w wa w' : World} {R : Nat} {nm : ByteArray} {vN vT v' : Value} {i j : Nat} {NM : Nat → ByteArray} {TY : Nat → Ty} {EL : Nat → Option Addr} (h : RPart w R nm vN i vT j NM TY EL) (hl : R < w.heap.size) (hb : Below w.heap.size w wa) (hg : wa.grownBy w' vN.ownBlock)
    (ho : w'.ownsRow (R + 1) 9 1 v' (i + 1) (namesL NM (i + 1))) : (w'.cell? ⟨R, 1, none⟩ = some vN ∧ w'.frozen? ⟨R, 1, none⟩ = false) ∧ RPart (w'.setCell ⟨R, 1, none⟩ v') R nm v' (i + 1) vT j NM TY EL ∧ Below R w (w'.setCell ⟨R, 1, none⟩ v') := by
  have ha := h.below hb hl
  have hla : R < wa.heap.size := Nat.lt_of_lt_of_le hl hb.size
  have hne : some R ≠ vN.ownBlock := fun e => by have := (h.n.lt R e.symm).1; omega
  have k0 : w'.cell? ⟨R, 0, none⟩ = some (.string nm) := by rw [hg.cell_far _ hla hne]; exact ha.c0
  have k1 : w'.cell? ⟨R, 1, none⟩ = some vN := by rw [hg.cell_far _ hla hne]; exact ha.c1
  have k2 : w'.cell? ⟨R, 2, none⟩ = some vT := by rw [hg.cell_far _ hla hne]; exact ha.c2
  have f1 : w'.frozen? ⟨R, 1, none⟩ = false := by rw [hg.frozen_far _ hla hne]; exact ha.f1
  have f2 : w'.frozen? ⟨R, 2, none⟩ = false := by rw [hg.frozen_far _ hla hne]; exact ha.f2
  refine ⟨⟨k1, f1⟩, ⟨?_, ?_, ?_, ?_, ?_, ownsRow_setCell_below ho (by simp) _, ownsRow_setCell_below (ha.t.kept hg (own_apart ha.t ha.n (by decide))) (by simp) _⟩, ?_⟩
  · simp [go_sem, k0, k1]
  · simp [go_sem, k0, k1]
  · simp [go_sem, k2, k1]
  · simp [go_sem, f1]
  · simp [go_sem, f2]
  · exact (((hb.mono (Nat.le_of_lt hl)).grown hg (by omega) (fun k e => by have := (h.n.lt k e).1; omega))).setCell (by simp) _
theorem RPart.addT {w wa w' : World} {R : Nat} {nm : ByteArray} {vN vT v' : Value} {i j : Nat} {NM : Nat → ByteArray} {TY : Nat → Ty} {EL : Nat → Option Addr} (h : RPart w R nm vN i vT j NM TY EL) (hl : R < w.heap.size) (hb : Below w.heap.size w wa) (hg : wa.grownBy w' vT.ownBlock)
    (ho : w'.ownsRow (R + 1) 34 9 v' (j + 1) (typesL TY EL (j + 1))) : (w'.cell? ⟨R, 2, none⟩ = some vT ∧ w'.frozen? ⟨R, 2, none⟩ = false) ∧ RPart (w'.setCell ⟨R, 2, none⟩ v') R nm vN i v' (j + 1) NM TY EL ∧ Below R w (w'.setCell ⟨R, 2, none⟩ v') := by
  have ha := h.below hb hl
  have hla : R < wa.heap.size := Nat.lt_of_lt_of_le hl hb.size
  have hne : some R ≠ vT.ownBlock := fun e => by have := (h.t.lt R e.symm).1; omega
  have k0 : w'.cell? ⟨R, 0, none⟩ = some (.string nm) := by rw [hg.cell_far _ hla hne]; exact ha.c0
  have k1 : w'.cell? ⟨R, 1, none⟩ = some vN := by rw [hg.cell_far _ hla hne]; exact ha.c1
  have k2 : w'.cell? ⟨R, 2, none⟩ = some vT := by rw [hg.cell_far _ hla hne]; exact ha.c2
  have f1 : w'.frozen? ⟨R, 1, none⟩ = false := by rw [hg.frozen_far _ hla hne]; exact ha.f1
  have f2 : w'.frozen? ⟨R, 2, none⟩ = false := by rw [hg.frozen_far _ hla hne]; exact ha.f2
  refine ⟨⟨k2, f2⟩, ⟨?_, ?_, ?_, ?_, ?_, ownsRow_setCell_below (ha.n.kept hg (own_apart ha.n ha.t (by decide))) (by simp) _, ownsRow_setCell_below ho (by simp) _⟩, ?_⟩
  · simp [go_sem, k0, k2]
  · simp [go_sem, k1, k2]
  · simp [go_sem, k1, k2]
  · simp [go_sem, f1]
  · simp [go_sem, f2]
  · exact (((hb.mono (Nat.le_of_lt hl)).grown hg (by omega) (fun k e => by have := (h.t.lt k e).1; omega))).setCell (by simp) _

theorem RTab.more {w : World} {lb N lc : Nat} {la : Option Addr} {RN : Nat → ByteArray} {RV : Nat → Option Addr × Nat × Nat} {G CT CC : Nat → Nat} {TY : Nat → Nat → Ty} {EL : Nat → Nat → Option Addr} (h : RTab w lb N lc la RN RV G CT CC TY EL)
    {base lb' lc' : Nat} {nm : ByteArray} {v : Option Addr × Nat × Nat} {g c cc : Nat} {TYr : Nat → Ty} {ELr : Nat → Option Addr} (ho : w.ownsRow base 65 3 (.slice (some ⟨lb', 0, none⟩) (N + 1) lc') (N + 1) (recs3 (upd RN N nm) (upd RV N v) (upd G N g) (upd CT N c) (upd CC N cc) (N + 1)))
    (hg : g < w.heap.size) (ht : ∀ i, i < c → Cells9 w g (i * 9) (TYr i) (ELr i) ∧ ElAt w 0 w.heap.size (TYr i) (ELr i)) :
    RTab w lb' (N + 1) lc' (some ⟨lb', 0, none⟩) (upd RN N nm) (upd RV N v) (upd G N g) (upd CT N c) (upd CC N cc) (upd TY N TYr) (upd EL N ELr) := by
  refine ⟨fun _ => rfl, fun _ => (ho.lt lb' rfl).2, r3_of_owns ho, fun k hk => ?_, fun k hk i hi => ?_⟩
  · by_cases hkn : k < N
    · rw [upd_lt _ _ _ hkn]; exact h.g k hkn
    · obtain rfl : k = N := by omega
      rw [upd_at]; exact hg
  · by_cases hkn : k < N
    · rw [upd_lt _ _ _ hkn] at hi ⊢
      rw [upd_lt _ _ _ hkn, upd_lt _ _ _ hkn]; exact h.t k hkn i hi
    · obtain rfl : k = N := by omega
      rw [upd_at] at hi ⊢
      rw [upd_at, upd_at]; exact ht i hi
theorem recs3_one (RN : Nat → ByteArray) (RV : Nat → Option Addr × Nat × Nat) (G CT CC : Nat → Nat) (n : Nat) (nm : ByteArray) (v : Option Addr × Nat × Nat) (g c cc : Nat) : recs3 (upd RN n nm) (upd RV n v) (upd G n g) (upd CT n c) (upd CC n cc) (n + 1) = recs3 RN RV G CT CC n ++ [.string nm, .slice v.1 v.2.1 v.2.2, .slice (some ⟨g, 0, none⟩) c cc] := by
  rw [recs3, recs3_upd _ _ _ _ _ _ _ _ _ _ _ _ (Nat.le_refl n)]
  simp only [upd_at, rec3]
theorem recs3_cell (RN : Nat → ByteArray) (RV : Nat → Option Addr × Nat × Nat) (G CT CC : Nat → Nat) (n : Nat) : ∀ u ∈ recs3 RN RV G CT CC n, u.oneCell' = true := by
  induction n with
  | zero => intro u hu; cases hu
  | succ n ih =>
    intro u hu
    rw [recs3, List.mem_append] at hu
    rcases hu with hu | hu
    · exact ih u hu
    · simp only [rec3, List.mem_cons, List.not_mem_nil, or_false] at hu
      rcases hu with rfl | rfl | rfl <;> rfl

theorem own_mono {w : World} {base base' : Nat} {e : TypeId} {size : Nat} {v : Value} {n : Nat} {xs : List Value} (h : w.ownsRow base e size v n xs) (hb : base' ≤ base) : w.ownsRow base' e size v n xs := by
  refine ⟨h.1, ?_⟩
  rcases h.2 with h2 | ⟨g, cap, cur, hv, hg, r⟩
  · exact Or.inl h2
  · exact Or.inr ⟨g, cap, cur, hv, by omega, r⟩
/-- What the reference's Add answers. -/
def RAddEnd (lb N lc : Nat) (la : Option Addr) (RN : Nat → ByteArray) (RV : Nat → Option Addr × Nat × Nat) (G CT CC : Nat → Nat) (nm : ByteArray) (va : Option Addr) (m vc gb tc : Nat) (code : Int) (w : World) (e : Ending) (w' : World) : Prop :=
  (code = 0 ∧ ∃ lb' lc', e = .returned (.tuple #[.slice (some ⟨lb', 0, none⟩) (N + 1) lc', .int .i64 0]) ∧ w'.ownsRow w.heap.size 65 3 (.slice (some ⟨lb', 0, none⟩) (N + 1) lc') (N + 1) (recs3 (upd RN N nm) (upd RV N (va, m, vc)) (upd G N gb) (upd CT N m) (upd CC N tc) (N + 1)) ∧ Below w.heap.size w w')
  ∨ (code ≠ 0 ∧ e = .returned (.tuple #[.slice la N lc, .int .i64 code]) ∧ Below w.heap.size w w')

section
variable (lb N lc : Nat) (la : Option Addr) (RN : Nat → ByteArray) (RV : Nat → Option Addr × Nat × Nat) (G CT CC : Nat → Nat) (TY : Nat → Nat → Ty) (EL : Nat → Nat → Option Addr)

set_option maxRecDepth 100000 in
set_option maxHeartbeats 16000000 in
theorem radd_any (hN : N < 20) (hnil : N = 0 → la = none ∧ lc = 0) (nm : ByteArray) (va ta : Option Addr) (nb gb m vc tc : Nat) (hm : m ≤ 20) (NM : Nat → ByteArray) (TYr : Nat → Ty) (ELr : Nat → Option Addr) (SZ AL : Nat → Int) (J : Nat) (hJ : J ≤ m) (code : Int)
    (hR : RowOk N SZ AL J NM TYr) (hD : (J = m ∧ 1 ≤ m ∧ code = 0) ∨ (J < m ∧ FaultAt N SZ AL NM TYr J code) ∨ (m = 0 ∧ J = 0 ∧ code = 14))
    (hS : ∀ i, i < m → ∀ w : World, RTab w lb N lc la RN RV G CT CC TY EL → RArg w m va ta nb gb NM TYr ELr → Calls Tryd.prog 9 #[.slice la N lc, tyV (TYr i) (ELr i)] w (IntRes (sizeM N SZ (TYr i)) w))
    (hE : ∀ i, i < m → (∀ j, j ≤ i → sizeM N SZ (TYr j) ≠ 0) → ∀ (w : World) (lb' lc' : Nat) (RV' : Nat → Option Addr × Nat × Nat) (G' CC' : Nat → Nat), RTab w lb' (N + 1) lc' (some ⟨lb', 0, none⟩) (upd RN N nm) RV' G' (upd CT N (i + 1)) CC' (upd TY N TYr) (upd EL N ELr) →
      Calls Tryd.prog 29 #[.slice (some ⟨lb', 0, none⟩) (N + 1) lc', .int .i64 N, .int .i64 ((i : Int) + 1)] w (IntRes (endT N SZ AL TYr (i + 1)) w))
    (hne : ∀ k, k < N → ((RN k).toList == nm.toList) = false) (w : World) (h : RTab w lb N lc la RN RV G CT CC TY EL) (hr : RArg w m va ta nb gb NM TYr ELr) :
    Calls Tryd.prog 21 #[.slice la N lc, .agg #[.string nm, .slice va m vc, .slice ta m tc]] w (RAddEnd lb N lc la RN RV G CT CC nm va m vc gb tc code w) := by
  have hla := h.a
  have hlb := h.l
  have HT0 := Lib.hid h
  have HR0 := Lib.hid hr
  have HN := Lib.hid hne
  have hO := Lib.hid hR
  have HD := Lib.hid hD
  have HS0 := Lib.hid hS
  have HE0 := Lib.hid hE
  have HNIL := Lib.hid hnil
  clear h hr hne hR hD hS hE hnil
  obtain ⟨s0, hs1, hs2, hs3, hs4⟩ := info_parts infoStr
  obtain ⟨y0, hy1, hy2, hy3, hy4⟩ := info_parts infoTyp
  obtain ⟨r0, hr1, hr2, hr3, hr4⟩ := info_parts infoRec3
  have S1 := Lib.hid hs1
  have S2 := Lib.hid hs2
  have S3 := Lib.hid hs3
  have S4 := Lib.hid hs4
  have Y1 := Lib.hid hy1
  have Y2 := Lib.hid hy2
  have Y3 := Lib.hid hy3
  have Y4 := Lib.hid hy4
  have M1 := Lib.hid hr1
  have M2 := Lib.hid hr2
  have M3 := Lib.hid hr3
  have M4 := Lib.hid hr4
  clear hs1 hs2 hs3 hs4 hy1 hy2 hy3 hy4 hr1 hr2 hr3 hr4
  have d2 : ¬ 20 ≤ N := by omega
  have d3 : ¬ 20 < m := by omega
  go_enter Tryd.func21, Tryd.ntmps21
  go_wp2_with fail
  generalize hW : w.alloc (.cells #[.string nm, .slice va m vc, .slice ta m tc] 65) = W
  have hbW : Below w.heap.size w W := by rw [← hW]; exact (Below.refl _ _).alloc (Nat.le_refl _) _
  have hsW : W.heap.size = w.heap.size + 1 := by rw [← hW]; simp
  have b0 : W.cell? ⟨w.heap.size, 0, none⟩ = some (.string nm) := by rw [← hW]; simp
  have b1 : W.cell? ⟨w.heap.size, 1, none⟩ = some (.slice va m vc) := by rw [← hW]; simp
  have b2 : W.cell? ⟨w.heap.size, 2, none⟩ = some (.slice ta m tc) := by rw [← hW]; simp
  have HBW := Lib.hid hbW
  have HSW := Lib.hid hsW
  have HB0 := Lib.hid b0
  have HB1 := Lib.hid b1
  have HB2 := Lib.hid b2
  clear hW hbW hsW b0 b1 b2
  go_loopw [6] (fun vi wr => ∃ k : Nat, vi = .int .i64 k ∧ k ≤ N ∧ Below W.heap.size W wr) (fun vi _ => N - (intOf vi).toNat)
  case atStart => exact ⟨0, rfl, by omega, Below.refl _ _⟩
  case round =>
    obtain ⟨k, rfl, hk, hb⟩ := hrel
    have hb0 : wr.cell? ⟨w.heap.size, 0, none⟩ = some (.string nm) := by rw [hb.cell (by simp [HSW.out])]; exact HB0.out
    have hb2 : wr.cell? ⟨w.heap.size, 2, none⟩ = some (.slice ta m tc) := by rw [hb.cell (by simp [HSW.out])]; exact HB2.out
    have HB := Lib.hid hb
    have hbw : Below w.heap.size w wr := HBW.out.trans (hb.mono HBW.out.size)
    have HBw := Lib.hid hbw
    by_cases hlt : k < N
    · have hla' := hla (by omega)
      have hlb' := hlb (by omega)
      obtain ⟨c0, c1, c2⟩ := (HT0.out.r k hlt).same (w' := wr) (fun o => hbw.cell (p := ⟨lb, o, none⟩) hlb')
      have he := HN.out k hlt
      have hkNi : (k : Int) < N := by omega
      subst hla'
      clear hb hbw hla hlb
      go_upto_region 4 with fail
      go_region_held3 (fun w' => w'.cell? ⟨lb, k * 3, none⟩ = some (.string (RN k)) ∧ w'.cell? ⟨w.heap.size, 0, none⟩ = some (.string nm)) (go_keep) (fail)
      go_wp2_with fail
      go_roundw
      case rel => exact ⟨k + 1, by go_num, by omega, HB.out.drew⟩
      case measure => simp [intOf]; omega
    · obtain rfl : N = k := by omega
      clear hb hbw hlt hk
      have hwl : w.heap.size < wr.heap.size := by have := HB.out.size; have := HSW.out; omega
      go_wp2_with fail
      obtain ⟨R, hRd⟩ : ∃ R, R = wr.heap.size := ⟨_, rfl⟩
      generalize hZ : wr.alloc (.cells #[.string nm, .slice none 0 0, .slice none 0 0] 65) = Z
      have hZb : Below wr.heap.size wr Z := by rw [← hZ]; exact (Below.refl _ _).alloc (Nat.le_refl _) _
      have hZs : Z.heap.size = wr.heap.size + 1 := by rw [← hZ]; simp
      have hZp : RPart Z wr.heap.size nm (.slice none 0 0) 0 (.slice none 0 0) 0 NM TYr ELr := by
        rw [← hZ]
        constructor
        · simp [go_sem]
        · simp [go_sem]
        · simp [go_sem]
        · simp [go_sem]
        · simp [go_sem]
        · exact World.ownsRow_nil _ _ _ _
        · exact World.ownsRow_nil _ _ _ _
      rw [← hRd] at hZp hZs hZb hwl
      have HZW : Hid (Below w.heap.size w Z) := Lib.hid (HBw.out.trans (hZb.mono (by have := HBw.out.size; omega)))
      have z0 : Z.cell? ⟨w.heap.size, 0, none⟩ = some (.string nm) := by rw [hZb.cell (by exact hwl)]; exact hb0
      have z1 : Z.cell? ⟨w.heap.size, 1, none⟩ = some (.slice va m vc) := by rw [hZb.cell (by exact hwl), HB.out.cell (by simp [HSW.out])]; exact HB1.out
      have z2 : Z.cell? ⟨w.heap.size, 2, none⟩ = some (.slice ta m tc) := by rw [hZb.cell (by exact hwl)]; exact hb2
      have HZ0 := Lib.hid z0
      have HZ1 := Lib.hid z1
      have HZ2 := Lib.hid z2
      have HZP := Lib.hid hZp
      have HZS := Lib.hid hZs
      have HTZ := Lib.hid (HT0.out.below HZW.out)
      have HRZ := Lib.hid (HR0.out.below HZW.out)
      rw [← hRd]
      clear hZ hZb hZs hZp z0 z1 z2 hb0 hb2 hRd
      go_loopw [8] (fun vi wr => ∃ (i : Nat) (vN vT : Value), vi = .int .i64 i ∧ i ≤ J ∧ Below R Z wr ∧ R < wr.heap.size ∧ RPart wr R nm vN i vT i NM TYr ELr) (fun vi _ => m - (intOf vi).toNat)
      case atStart => exact ⟨0, _, _, rfl, by omega, Below.refl _ _, by have := HZS.out; omega, HZP.out⟩
      case round =>
        obtain ⟨i, vN, vT, rfl, hi, hb, hRl, hp⟩ := hrel
        obtain ⟨w2, hw2⟩ : ∃ w2, w2 = wr := ⟨_, rfl⟩
        rw [← hw2] at hb hRl hp
        rw [← hw2]
        clear hw2
        have HBR := Lib.hid hb
        have HP := Lib.hid hp
        have hcell : ∀ (wx : World), Below R Z wx → wx.cell? ⟨w.heap.size, 0, none⟩ = some (.string nm) ∧ wx.cell? ⟨w.heap.size, 1, none⟩ = some (.slice va m vc) ∧ wx.cell? ⟨w.heap.size, 2, none⟩ = some (.slice ta m tc) := fun wx hx =>
          ⟨by rw [hx.cell (by exact hwl)]; exact HZ0.out, by rw [hx.cell (by exact hwl)]; exact HZ1.out, by rw [hx.cell (by exact hwl)]; exact HZ2.out⟩
        have HCELL := Lib.hid hcell
        obtain ⟨z0, z1, z2⟩ := hcell w2 hb
        clear hb hp hcell
        by_cases hlt : i < m
        · have hcase : (∃ j, j < i ∧ NM j = NM i ∧ (∀ x, x < j → ((NM x).toList == (NM j).toList) = false) ∧ code = 13) ∨ ((∀ j, j < i → ((NM j).toList == (NM i).toList) = false) ∧ ((sizeM N SZ (TYr i) = 0 ∧ code = 14) ∨ (sizeM N SZ (TYr i) ≠ 0 ∧ i < J ∧ endT N SZ AL TYr (i + 1) ≤ 32768) ∨ (sizeM N SZ (TYr i) ≠ 0 ∧ i = J ∧ 32768 < endT N SZ AL TYr (i + 1) ∧ code = 5))) := by
            rcases Nat.lt_or_ge i J with h | h
            · exact Or.inr ⟨fun j hj => hO.out.d i h j hj, Or.inr (Or.inl ⟨hO.out.s i h, h, hO.out.e i h⟩)⟩
            · obtain rfl : i = J := by omega
              rcases HD.out with ⟨h1, _⟩ | ⟨_, h2⟩ | ⟨h1, _⟩
              · omega
              · rcases h2 with ⟨h3, j, h4, h5, h6⟩ | ⟨h3, h4, h5⟩ | ⟨h3, h4, h5, h6⟩
                · exact Or.inl ⟨j, h4, h5, h6, h3⟩
                · exact Or.inr ⟨h4, Or.inl ⟨h5, h3⟩⟩
                · exact Or.inr ⟨h4, Or.inr (Or.inr ⟨h5, rfl, h6, h3⟩)⟩
              · omega
          obtain ⟨rfl, rfl⟩ := HR0.out.a (by omega)
          have hnb := (HR0.out.l (by omega)).1
          have hgb := (HR0.out.l (by omega)).2
          have HTW : Hid (∀ wx : World, Below R Z wx → Below w.heap.size w wx) := Lib.hid (fun wx h => HZW.out.trans (h.mono (by omega)))
          have hil : (i : Int) < m := by omega
          have hil0 : (0 : Int) ≤ i := by omega
          rcases hcase with ⟨j, hj, hjn, hjm, rfl⟩ | ⟨hnn, hrest⟩
          · have HJM := Lib.hid hjm
            have HJN := Lib.hid hjn
            clear hjm hjn
            go_wp2_with fail
            go_loopw [9] (fun vi wr => ∃ k : Nat, vi = .int .i64 k ∧ k ≤ j ∧ Below R w2 wr) (fun vi _ => m - (intOf vi).toNat)
            case atStart => exact ⟨0, rfl, by omega, Below.refl _ _⟩
            case round =>
              obtain ⟨k, rfl, hk, hb⟩ := hrel
              have hbr : Below R Z wr := HBR.out.trans hb
              obtain ⟨x0, x1, x2⟩ := HCELL.out wr hbr
              have hrw := HR0.out.below (HTW.out wr hbr)
              have n1 := hrw.n k (by omega)
              have n2 := hrw.n i (by omega)
              have HB2 := Lib.hid hb
              have HBr := Lib.hid hbr
              have hkl0 : (0 : Int) ≤ k := by omega
              have hkl : (k : Int) < m := by omega
              clear hb hbr hrw
              by_cases hkj : k < j
              · have he := HJM.out k hkj
                rw [HJN.out] at he
                go_upto_region 16 with fail
                go_region_held3 (fun w' => w'.cell? ⟨w.heap.size, 1, none⟩ = some (.slice (some ⟨nb, 0, none⟩) m vc) ∧ w'.cell? ⟨nb, k, none⟩ = some (.string (NM k)) ∧ w'.cell? ⟨nb, i, none⟩ = some (.string (NM i))) (go_keep) (fail)
                go_wp2_with fail
                go_roundw
                case rel => exact ⟨k + 1, by go_num, by omega, HB2.out.drew⟩
                case measure => simp [intOf]; omega
              · obtain rfl : j = k := by omega
                have he : ((NM j).toList == (NM i).toList) = true := by rw [HJN.out]; simp
                go_upto_region 16 with fail
                go_region_held3 (fun w' => w'.cell? ⟨w.heap.size, 1, none⟩ = some (.slice (some ⟨nb, 0, none⟩) m vc) ∧ w'.cell? ⟨nb, j, none⟩ = some (.string (NM j)) ∧ w'.cell? ⟨nb, i, none⟩ = some (.string (NM i))) (go_keep) (fail)
                go_wp2_with fail
                go_ret2
                exact Or.inr ⟨by decide, rfl, (HTW.out _ HBr.out).drew⟩
          · have HNN := Lib.hid hnn
            have HREST := Lib.hid hrest
            clear hnn hrest
            go_wp2_with fail
            go_loopw [9] (fun vi wr => ∃ k : Nat, vi = .int .i64 k ∧ k ≤ i ∧ Below w2.heap.size w2 wr) (fun vi _ => m - (intOf vi).toNat)
            case atStart => exact ⟨0, rfl, by omega, Below.refl _ _⟩
            case round =>
              obtain ⟨k, rfl, hk, hb⟩ := hrel
              have hbr : Below R Z wr := HBR.out.trans (hb.mono (by omega))
              obtain ⟨x0, x1, x2⟩ := HCELL.out wr hbr
              have hrw := HR0.out.below (HTW.out wr hbr)
              have n2 := hrw.n i (by omega)
              have HB2 := Lib.hid hb
              have HBr := Lib.hid hbr
              have HRw := Lib.hid hrw
              have hkl0 : (0 : Int) ≤ k := by omega
              have hkl : (k : Int) < m := by omega
              by_cases hki : k < i
              · have he := HNN.out k hki
                have n1 := hrw.n k (by omega)
                clear hb hbr hrw
                go_upto_region 16 with fail
                go_region_held3 (fun w' => w'.cell? ⟨w.heap.size, 1, none⟩ = some (.slice (some ⟨nb, 0, none⟩) m vc) ∧ w'.cell? ⟨nb, k, none⟩ = some (.string (NM k)) ∧ w'.cell? ⟨nb, i, none⟩ = some (.string (NM i))) (go_keep) (fail)
                go_wp2_with fail
                go_roundw
                case rel => exact ⟨k + 1, by go_num, by omega, HB2.out.drew⟩
                case measure => simp [intOf]; omega
              · obtain rfl : k = i := by omega
                obtain ⟨⟨c0, c1, c2, c3, c4, c5, c6, c7, c8⟩, _⟩ := hrw.t k (by omega)
                have hSk := HS0.out k hlt wr (HT0.out.below (HTW.out wr hbr)) hrw
                unfold tyV at hSk
                have HSk := Lib.hid hSk
                obtain ⟨X, hX⟩ : ∃ X, X = sizeM N SZ (TYr k) := ⟨_, rfl⟩
                rw [← hX] at HSk HREST
                have HXD := Lib.hid hX
                clear hb hbr hrw hSk hX
                have hr2 : (X = 0 ∧ code = 14) ∨ (X ≠ 0 ∧ ((k < J ∧ endT N SZ AL TYr (k + 1) ≤ 32768) ∨ (k = J ∧ 32768 < endT N SZ AL TYr (k + 1) ∧ code = 5))) := by
                  rcases HREST.out with h | ⟨h1, h2⟩ | ⟨h1, h2⟩
                  · exact Or.inl h
                  · exact Or.inr ⟨h1, Or.inl h2⟩
                  · exact Or.inr ⟨h1, Or.inr h2⟩
                rcases hr2 with ⟨hx, rfl⟩ | ⟨hx, hrest⟩
                · have hX0 : (X == 0) = true := by simpa using hx
                  go_wp2_with (go_at_call 9
                               (with_reducible refine HSk.out.mono ?_)
                               rintro e w4 ⟨rfl, hb4⟩
                               have HB4 : Hid (Below wr.heap.size wr w4) := Lib.hid hb4
                               clear hb4)
                  all_goals
                    go_ret2
                    exact Or.inr ⟨by decide, rfl, (HTW.out _ HBr.out).trans (HB4.out.mono (HTW.out _ HBr.out).size)⟩
                · have hX0 : (X == 0) = false := by simpa using hx
                  have HX := Lib.hid hx
                  have HR2 := Lib.hid hrest
                  clear hx hrest
                  go_wp2_with (go_at_call 9
                               (with_reducible refine HSk.out.mono ?_)
                               rintro e w4 ⟨rfl, hb4⟩
                               have HB4 : Hid (Below wr.heap.size wr w4) := Lib.hid hb4
                               clear hb4)
                  have HW4 : Hid (Below R Z w4) := Lib.hid (HBr.out.trans (HB4.out.mono (by have := HBr.out.size; have := HZS.out; omega)))
                  have HP4 := Lib.hid (HP.out.below (HB2.out.trans (HB4.out.mono HB2.out.size)) hRl)
                  have hR4 : R < w4.heap.size := by have := HW4.out.size; have := HZS.out; omega
                  clear x0 x1 x2 n2 c0 c1 c2 c3 c4 c5 c6 c7 c8 z0 z1 z2
                  obtain ⟨x0, x1, x2⟩ := HCELL.out w4 HW4.out
                  have n2 := (HR0.out.below (HTW.out w4 HW4.out)).n k hlt
                  have hp1 := HP4.out.c1
                  have hpf1 := HP4.out.f1
                  have hRn : R ≠ w4.heap.size := by omega
                  go_cut [8] (fun s8 wx => s8 = .int .i64 k ∧ PartN w4 R nm k vT NM TYr ELr wx)
                  case first =>
                    go_region_law
                      (first
                        | ((refine step_append_lies _ (by rfl) _ _ _ (by rfl) (R + 1) 9 s0 (.string ⟨#[]⟩) 1 16 Tryd.underlying60 S1.out S2.out S3.out S4.out rfl (by omega) vN k (namesL NM k) (by rfl) (ownsRow_below HP4.out.n ((Below.refl _ _).alloc (Nat.le_refl _) _).drew)
                                  ⟨w4.heap.size, 0, none⟩ 1 1 [.string (NM k)] (by rfl) (by rfl) (World.news_of_block (cs := #[.string (NM k)]) (t := 9) (fr := (0, 0)) (heap_alloc_new w4 _)) (by simp [Value.oneCell'])
                                  (by omega) (by unfold maxLen; omega) (by omega) (by simp; omega) (w4.heap.size + 1) (by simp) ?_)
                           intro gg cap w5 hown5 hgrow hat hlt5
                           have hq := HP4.out.addN hR4 ((Below.refl _ _).alloc (Nat.le_refl _) _).drew hgrow hown5
                           have q1 := hq.1.1
                           have qf1 := hq.1.2
                           have HQ := Lib.hid hq.2
                           clear hown5 hgrow hat hq))
                    all_goals
                      go_wp2_with fail
                      go_meet
                      exact ⟨rfl, gg, cap, HQ.out.1, HQ.out.2⟩
                  case rest =>
                    obtain ⟨rfl, gN, cN, hp, hb⟩ := hcut
                    obtain ⟨w5, hw5⟩ : ∃ w5, w5 = wc := ⟨_, rfl⟩
                    subst hw5
                    have HP5 := Lib.hid hp
                    have HW5 : Hid (Below R Z w5) := Lib.hid (HW4.out.trans hb)
                    have hR5 : R < w5.heap.size := by have := hb.size; omega
                    clear hp hb x0 x1 x2 n2 hp1 hpf1 hRn
                    obtain ⟨x0, x1, x2⟩ := HCELL.out w5 HW5.out
                    obtain ⟨⟨c0, c1, c2, c3, c4, c5, c6, c7, c8⟩, _⟩ := (HR0.out.below (HTW.out w5 HW5.out)).t k hlt
                    have hp2 := HP5.out.c2
                    have hpf2 := HP5.out.f2
                    have hRn : R ≠ w5.heap.size := by omega
                    go_upto_region 21 with fail
                    go_cut [8] (fun s8 wx => s8 = .int .i64 k ∧ PartT w5 R nm k (.slice (some ⟨gN, 0, none⟩) (k + 1) cN) NM TYr ELr wx)
                    case first =>
                      go_region_law
                        (first
                          | ((refine step_append_lies _ (by rfl) _ _ _ (by rfl) (R + 1) 34 y0 (tyV .void none) 9 80 Tryd.underlying32 Y1.out Y2.out Y3.out Y4.out rfl (by omega) vT k (typesL TYr ELr k) (by rfl) (ownsRow_below HP5.out.t ((Below.refl _ _).alloc (Nat.le_refl _) _).drew)
                                    ⟨w5.heap.size, 0, none⟩ 1 1 [.int .i64 (TYr k).kind, .int .i64 (TYr k).size, .bool (TYr k).sg, .bool (TYr k).sc, .pointer (ELr k), .int .i64 (TYr k).len, .int .i64 (TYr k).num, .slice none 0 0, .pointer none] (by rfl) (by rfl) (World.news_of_block (cs := #[.int .i64 (TYr k).kind, .int .i64 (TYr k).size, .bool (TYr k).sg, .bool (TYr k).sc, .pointer (ELr k), .int .i64 (TYr k).len, .int .i64 (TYr k).num, .slice none 0 0, .pointer none]) (t := 34) (fr := (0, 0)) (heap_alloc_new w5 _)) (by simp [Value.oneCell'])
                                    (by omega) (by unfold maxLen; omega) (by omega) (by simp; omega) (w5.heap.size + 1) (by simp) ?_)
                             intro gg cap w6 hown6 hgrow hat hlt6
                             have hq := HP5.out.addT hR5 ((Below.refl _ _).alloc (Nat.le_refl _) _).drew hgrow hown6
                             have q1 := hq.1.1
                             have qf1 := hq.1.2
                             have HQ := Lib.hid hq.2
                             clear hown6 hgrow hat hq))
                      all_goals
                        go_wp2_with fail
                        go_meet
                        exact ⟨rfl, gg, cap, HQ.out.1, HQ.out.2⟩
                    case rest =>
                      obtain ⟨rfl, gT, cT, hp, hb⟩ := hcut
                      obtain ⟨w6, hw6⟩ : ∃ w6, w6 = wc := ⟨_, rfl⟩
                      subst hw6
                      have HP6 := Lib.hid hp
                      have HW6 : Hid (Below R Z w6) := Lib.hid (HW5.out.trans hb)
                      have hR6 : R < w6.heap.size := by have := hb.size; omega
                      clear hp hb x0 x1 x2 c0 c1 c2 c3 c4 c5 c6 c7 c8 hp2 hpf2 hRn
                      obtain ⟨x0, x1, x2⟩ := HCELL.out w6 HW6.out
                      have hp0 := HP6.out.c0
                      have hp1 := HP6.out.c1
                      have hp2 := HP6.out.c2
                      have HT6 := Lib.hid (HT0.out.below (HTW.out w6 HW6.out))
                      go_upto_region 22 with fail
                      have HTY := HT6
                      go_cut [10] (fun s10 wx => ∃ lb' lc', s10 = .slice (some ⟨lb', 0, none⟩) (N + 1) lc' ∧ PartM w6 w6.heap.size lb' N lc' (upd RN N nm) (upd RV N (some ⟨gN, 0, none⟩, k + 1, cN)) (upd G N gT) (upd CT N (k + 1)) (upd CC N cT) wx)
                      case first =>
                        go_region_law
                          (first
                            | (have hp9 := HG0.out
                               have HVW := HV0.out.alloc (.cells #[.string nm, .slice (some ⟨gN, 0, none⟩) (k + 1) cN, .slice (some ⟨gT, 0, none⟩) (k + 1) cT] 65)
                               have HLIT := World.news_of_block (cs := #[.string nm, .slice (some ⟨gN, 0, none⟩) (k + 1) cN, .slice (some ⟨gT, 0, none⟩) (k + 1) cT]) (t := 65) (fr := (0, 0)) (heap_alloc_new wa (.cells #[.string nm, .slice (some ⟨gN, 0, none⟩) (k + 1) cN, .slice (some ⟨gT, 0, none⟩) (k + 1) cT] 65))
                               refine step_append_lies _ (by rfl) _ _ _ (by rfl) w6.heap.size 65 r0 (.agg #[.string ⟨#[]⟩, .slice none 0 0, .slice none 0 0]) 3 64 Tryd.underlying28 M1.out M2.out M3.out M4.out rfl (by omega) v0 N (recs3 RN RV G CT CC N) (by rfl) HVW ⟨wa.heap.size, 0, none⟩ 1 1 [.string nm, .slice (some ⟨gN, 0, none⟩) (k + 1) cN, .slice (some ⟨gT, 0, none⟩) (k + 1) cT] (by rfl) (by rfl) HLIT (by simp [Value.oneCell']) (by omega) (by unfold maxLen; omega) (by omega) (by have := hp9.size; simp at this; simp; omega) (wa.heap.size + 1) (by simp) ?_
                               clear HVW HLIT hp9
                               intro gg cap wz hownb hgrowb hatb hltb
                               have HVB := Lib.hid hownb
                               have HGB := Lib.hid hgrowb
                               have HBZ9 : Hid (Below w6.heap.size w6 wz) := Lib.hid (by
                                 have b0 : Below w6.heap.size w6 wa := (Below.refl _ _).drew.grown HG0.out (by simp) (fun q hq => by simp at hq)
                                 have hrow := HV0.out.lt
                                 exact (b0.alloc b0.size _).grown hgrowb (by have := b0.size; simp; omega) (fun q hq => (hrow q hq).1))
                               clear hownb hgrowb hatb hltb)
                            | (have hp9 := HG0B.out
                               have HVW := HV0B.out
                               have HLIT := HLB.out
                               refine step_append_lies _ (by rfl) _ _ _ (by rfl) w6.heap.size 65 r0 (.agg #[.string ⟨#[]⟩, .slice none 0 0, .slice none 0 0]) 3 64 Tryd.underlying28 M1.out M2.out M3.out M4.out rfl (by omega) v0 N (recs3 RN RV G CT CC N) (by rfl) HVW ⟨w6.heap.size, 0, none⟩ 1 1 [.string nm, .slice (some ⟨gN, 0, none⟩) (k + 1) cN, .slice (some ⟨gT, 0, none⟩) (k + 1) cT] (by rfl) (by rfl) HLIT (by simp [Value.oneCell']) (by omega) (by unfold maxLen; omega) (by omega) (by have := hp9.size; simp at this; omega) wb.heap.size rfl ?_
                               clear HVW HLIT hp9
                               intro gg cap wz hownb hgrowb hatb hltb
                               have HVB := Lib.hid hownb
                               have HGB := Lib.hid hgrowb
                               have HBZ9 : Hid (Below w6.heap.size w6 wz) := Lib.hid (by
                                 have b0 : Below w6.heap.size w6 wb := (((Below.refl _ _).alloc (Nat.le_refl _) _).drew).grown HG0B.out (by simp) (fun q hq => by simp at hq)
                                 have hrow := HV0B.out.lt
                                 exact b0.grown hgrowb b0.size (fun q hq => (hrow q hq).1))
                               clear hownb hgrowb hatb hltb)
                            | (have HNW : 0 < N → ∀ j u, (recs3 RN RV G CT CC N)[j]? = some u → (World.drew w6).cell? ⟨lb, j, none⟩ = some u := fun hn j u hj => ((Below.refl w6.heap.size w6).drew.cell (p := ⟨lb, j, none⟩) (HTY.out.l hn)).trans (recs3_of HTY.out.r j u hj)
                               refine step_append_copy (by rfl) _ _ _ (by rfl) w6.heap.size 65 r0 (.agg #[.string ⟨#[]⟩, .slice none 0 0, .slice none 0 0]) 3 64 Tryd.underlying28 M1.out M2.out M3.out M4.out rfl (by omega) la lb N lc (recs3 RN RV G CT CC N) HNIL.out hla (by rfl) (by rfl) (by rw [recs3_len]) (fun hn j u hj => (by with_reducible exact HNW hn j u hj)) (recs3_cell _ _ _ _ _ _) (by unfold maxLen; omega) (by omega) (by simp) ?_
                               clear HNW
                               intro v0 wa hown0 hgrow0
                               have HV0 := Lib.hid hown0
                               have HG0 := Lib.hid hgrow0
                               have k0 : wa.cell? ⟨R, 0, none⟩ = some (.string nm) := by rw [hgrow0.cell_far _ (by simp; omega) (by simp)]; exact hp0
                               have k1 : wa.cell? ⟨R, 1, none⟩ = some (.slice (some ⟨gN, 0, none⟩) (k + 1) cN) := by rw [hgrow0.cell_far _ (by simp; omega) (by simp)]; exact hp1
                               have k2 : wa.cell? ⟨R, 2, none⟩ = some (.slice (some ⟨gT, 0, none⟩) (k + 1) cT) := by rw [hgrow0.cell_far _ (by simp; omega) (by simp)]; exact hp2
                               have hka : R < wa.heap.size := by have := hgrow0.size; simp at this; omega
                               have hkn : R ≠ wa.heap.size := by omega
                               clear hown0 hgrow0)
                            | (have hBA : Below w6.heap.size w6 (World.drew (World.alloc w6 (.cells #[.string nm, .slice (some ⟨gN, 0, none⟩) (k + 1) cN, .slice (some ⟨gT, 0, none⟩) (k + 1) cT] 65))) := ((Below.refl _ _).alloc (Nat.le_refl _) _).drew
                               have HNW : 0 < N → ∀ j u, (recs3 RN RV G CT CC N)[j]? = some u → (World.drew (World.alloc w6 (.cells #[.string nm, .slice (some ⟨gN, 0, none⟩) (k + 1) cN, .slice (some ⟨gT, 0, none⟩) (k + 1) cT] 65))).cell? ⟨lb, j, none⟩ = some u := fun hn j u hj => (hBA.cell (p := ⟨lb, j, none⟩) (HTY.out.l hn)).trans (recs3_of HTY.out.r j u hj)
                               refine step_append_copy (by rfl) _ _ _ (by rfl) w6.heap.size 65 r0 (.agg #[.string ⟨#[]⟩, .slice none 0 0, .slice none 0 0]) 3 64 Tryd.underlying28 M1.out M2.out M3.out M4.out rfl (by omega) la lb N lc (recs3 RN RV G CT CC N) HNIL.out hla (by rfl) (by rfl) (by rw [recs3_len]) (fun hn j u hj => (by with_reducible exact HNW hn j u hj)) (recs3_cell _ _ _ _ _ _) (by unfold maxLen; omega) (by omega) (by simp) ?_
                               clear HNW
                               intro v0 wb hown0 hgrow0
                               have HV0B := Lib.hid hown0
                               have HG0B := Lib.hid hgrow0
                               have HLB : Hid (∀ j u, ([.string nm, .slice (some ⟨gN, 0, none⟩) (k + 1) cN, .slice (some ⟨gT, 0, none⟩) (k + 1) cT] : List Value)[j]? = some u → wb.cell? ((⟨w6.heap.size, 0, none⟩ : Addr).add j) = some u) := Lib.hid (fun j u hu => by have h1 : (World.drew (World.alloc w6 (.cells #[.string nm, .slice (some ⟨gN, 0, none⟩) (k + 1) cN, .slice (some ⟨gT, 0, none⟩) (k + 1) cT] 65))).cell? ((⟨w6.heap.size, 0, none⟩ : Addr).add j) = some u := World.news_of_block (cs := #[.string nm, .slice (some ⟨gN, 0, none⟩) (k + 1) cN, .slice (some ⟨gT, 0, none⟩) (k + 1) cT]) (t := 65) (fr := (0, 0)) (heap_alloc_new w6 _) j u hu; rw [hgrow0.cell_far _ (by unfold Addr.add; split <;> simp) (by simp)]; exact h1)
                               clear hown0 hgrow0 hBA))
                        all_goals
                          go_wp2_with fail
                          go_meet
                          refine ⟨gg, cap, rfl, ?_, HBZ9.out⟩
                          rw [recs3_one]; exact HVB.out
                      case rest =>
                        obtain ⟨lb', lc', rfl, hown, hb⟩ := hcut
                        obtain ⟨w7, hw7⟩ : ∃ w7, w7 = wc := ⟨_, rfl⟩
                        subst hw7
                        have HO7 := Lib.hid hown
                        have HB7 := Lib.hid hb
                        have HW7 : Hid (Below R Z w7) := Lib.hid (HW6.out.trans (hb.mono (by omega)))
                        have hP7 := HP6.out.below hb hR6
                        have hR7 : R < w7.heap.size := by have := hb.size; omega
                        have hgT : gT < w7.heap.size := (hP7.t.lt gT rfl).2
                        have hR8 := HR0.out.below (HTW.out w7 HW7.out)
                        have hTm := RTab.more (v := (some ⟨gN, 0, none⟩, k + 1, cN)) (HT0.out.below (HTW.out w7 HW7.out)) hown hgT (TYr := TYr) (ELr := ELr) (fun i hi => ⟨types_of_owns hP7.t i hi, (hR8.t i (by omega)).2⟩)
                        have hEk := HE0.out k hlt (fun j hj => by
                          rcases Nat.lt_or_ge j k with h | h
                          · exact hO.out.s j (by omega)
                          · obtain rfl : j = k := by omega
                            rw [← HXD.out]; exact HX.out) w7 lb' lc' _ _ _ hTm
                        have HEk := Lib.hid hEk
                        have HP7 := Lib.hid hP7
                        clear hown hb hP7 hgT hR8 hTm hEk x0 x1 x2 hp0 hp1 hp2
                        obtain ⟨x0, x1, x2⟩ := HCELL.out w7 HW7.out
                        obtain ⟨V, hV⟩ : ∃ V, V = endT N SZ AL TYr (k + 1) := ⟨_, rfl⟩
                        rw [← hV] at HEk
                        have hr2 := HR2.out
                        rw [← hV] at hr2
                        clear hV
                        rcases hr2 with ⟨hkJ, hv⟩ | ⟨rfl, hv, rfl⟩
                        · have hv' : ¬ 32768 < V := by omega
                          go_wp2_with (go_at_call 29
                                       (with_reducible refine HEk.out.mono ?_)
                                       rintro e w8 ⟨rfl, hb8⟩
                                       have HB8 : Hid (Below w7.heap.size w7 w8) := Lib.hid hb8
                                       clear hb8)
                          go_roundw
                          case rel => exact ⟨k + 1, _, _, by go_num, by omega, HW7.out.trans (HB8.out.mono (by omega)), by have := HB8.out.size; omega, HP7.out.below HB8.out hR7⟩
                          case measure => simp [intOf]; omega
                        · go_wp2_with (go_at_call 29
                                       (with_reducible refine HEk.out.mono ?_)
                                       rintro e w8 ⟨rfl, hb8⟩
                                       have HB8 : Hid (Below w7.heap.size w7 w8) := Lib.hid hb8
                                       clear hb8)
                          go_ret2
                          exact Or.inr ⟨by decide, rfl, (HTW.out _ HW7.out).trans (HB8.out.mono (HTW.out _ HW7.out).size)⟩


        · obtain rfl : m = i := by omega
          have HTW : Hid (∀ wx : World, Below R Z wx → Below w.heap.size w wx) := Lib.hid (fun wx h => HZW.out.trans (h.mono (by omega)))
          rcases HD.out with ⟨hJm, hm1, hc⟩ | ⟨h, _⟩ | ⟨hm0, hJ0, hc⟩
          · subst hc
            have hk0 : ((m : Int) == 0) = false := by simpa using (by omega : m ≠ 0)
            obtain ⟨rfl, rfl⟩ := HR0.out.a (by omega)
            have HTY := Lib.hid (HT0.out.below (HTW.out w2 HBR.out))
            have hboxl : w.heap.size < w2.heap.size := by omega
            go_upto_region 27 with fail
            go_region_law
              (first
                | (have hp9 := HG0.out
                   have HVW := HV0.out.alloc (.cells #[.string nm, .slice (some ⟨nb, 0, none⟩) m vc, .slice (some ⟨gb, 0, none⟩) m tc] 65)
                   have HLIT := World.news_of_block (cs := #[.string nm, .slice (some ⟨nb, 0, none⟩) m vc, .slice (some ⟨gb, 0, none⟩) m tc]) (t := 65) (fr := (0, 0)) (heap_alloc_new wa (.cells #[.string nm, .slice (some ⟨nb, 0, none⟩) m vc, .slice (some ⟨gb, 0, none⟩) m tc] 65))
                   refine step_append_lies _ (by rfl) _ _ _ (by rfl) w2.heap.size 65 r0 (.agg #[.string ⟨#[]⟩, .slice none 0 0, .slice none 0 0]) 3 64 Tryd.underlying28 M1.out M2.out M3.out M4.out rfl (by omega) v0 N (recs3 RN RV G CT CC N) (by rfl) HVW ⟨wa.heap.size, 0, none⟩ 1 1 [.string nm, .slice (some ⟨nb, 0, none⟩) m vc, .slice (some ⟨gb, 0, none⟩) m tc] (by rfl) (by rfl) HLIT (by simp [Value.oneCell']) (by omega) (by unfold maxLen; omega) (by omega) (by have := hp9.size; simp at this; simp; omega) (wa.heap.size + 1) (by simp) ?_
                   clear HVW HLIT hp9
                   intro gg cap wz hownb hgrowb hatb hltb
                   have HVB := Lib.hid hownb
                   have HGB := Lib.hid hgrowb
                   have HBZ9 : Hid (Below w2.heap.size w2 wz) := Lib.hid (by
                     have b0 : Below w2.heap.size w2 wa := (Below.refl _ _).drew.grown HG0.out (by simp) (fun q hq => by simp at hq)
                     have hrow := HV0.out.lt
                     exact (b0.alloc b0.size _).grown hgrowb (by have := b0.size; simp; omega) (fun q hq => (hrow q hq).1))
                   clear hownb hgrowb hatb hltb)
                | (have hp9 := HG0B.out
                   have HVW := HV0B.out
                   have HLIT := HLB.out
                   refine step_append_lies _ (by rfl) _ _ _ (by rfl) w2.heap.size 65 r0 (.agg #[.string ⟨#[]⟩, .slice none 0 0, .slice none 0 0]) 3 64 Tryd.underlying28 M1.out M2.out M3.out M4.out rfl (by omega) v0 N (recs3 RN RV G CT CC N) (by rfl) HVW ⟨w2.heap.size, 0, none⟩ 1 1 [.string nm, .slice (some ⟨nb, 0, none⟩) m vc, .slice (some ⟨gb, 0, none⟩) m tc] (by rfl) (by rfl) HLIT (by simp [Value.oneCell']) (by omega) (by unfold maxLen; omega) (by omega) (by have := hp9.size; simp at this; omega) wb.heap.size rfl ?_
                   clear HVW HLIT hp9
                   intro gg cap wz hownb hgrowb hatb hltb
                   have HVB := Lib.hid hownb
                   have HGB := Lib.hid hgrowb
                   have HBZ9 : Hid (Below w2.heap.size w2 wz) := Lib.hid (by
                     have b0 : Below w2.heap.size w2 wb := (((Below.refl _ _).alloc (Nat.le_refl _) _).drew).grown HG0B.out (by simp) (fun q hq => by simp at hq)
                     have hrow := HV0B.out.lt
                     exact b0.grown hgrowb b0.size (fun q hq => (hrow q hq).1))
                   clear hownb hgrowb hatb hltb)
                | (have HNW : 0 < N → ∀ j u, (recs3 RN RV G CT CC N)[j]? = some u → (World.drew w2).cell? ⟨lb, j, none⟩ = some u := fun hn j u hj => ((Below.refl w2.heap.size w2).drew.cell (p := ⟨lb, j, none⟩) (HTY.out.l hn)).trans (recs3_of HTY.out.r j u hj)
                   refine step_append_copy (by rfl) _ _ _ (by rfl) w2.heap.size 65 r0 (.agg #[.string ⟨#[]⟩, .slice none 0 0, .slice none 0 0]) 3 64 Tryd.underlying28 M1.out M2.out M3.out M4.out rfl (by omega) la lb N lc (recs3 RN RV G CT CC N) HNIL.out hla (by rfl) (by rfl) (by rw [recs3_len]) (fun hn j u hj => (by with_reducible exact HNW hn j u hj)) (recs3_cell _ _ _ _ _ _) (by unfold maxLen; omega) (by omega) (by simp) ?_
                   clear HNW
                   intro v0 wa hown0 hgrow0
                   have HV0 := Lib.hid hown0
                   have HG0 := Lib.hid hgrow0
                   have k0 : wa.cell? ⟨w.heap.size, 0, none⟩ = some (.string nm) := by rw [hgrow0.cell_far _ (by simp; omega) (by simp)]; exact z0
                   have k1 : wa.cell? ⟨w.heap.size, 1, none⟩ = some (.slice (some ⟨nb, 0, none⟩) m vc) := by rw [hgrow0.cell_far _ (by simp; omega) (by simp)]; exact z1
                   have k2 : wa.cell? ⟨w.heap.size, 2, none⟩ = some (.slice (some ⟨gb, 0, none⟩) m tc) := by rw [hgrow0.cell_far _ (by simp; omega) (by simp)]; exact z2
                   have hka : w.heap.size < wa.heap.size := by have := hgrow0.size; simp at this; omega
                   have hkn : w.heap.size ≠ wa.heap.size := by omega
                   clear hown0 hgrow0)
                | (have hBA : Below w2.heap.size w2 (World.drew (World.alloc w2 (.cells #[.string nm, .slice (some ⟨nb, 0, none⟩) m vc, .slice (some ⟨gb, 0, none⟩) m tc] 65))) := ((Below.refl _ _).alloc (Nat.le_refl _) _).drew
                   have HNW : 0 < N → ∀ j u, (recs3 RN RV G CT CC N)[j]? = some u → (World.drew (World.alloc w2 (.cells #[.string nm, .slice (some ⟨nb, 0, none⟩) m vc, .slice (some ⟨gb, 0, none⟩) m tc] 65))).cell? ⟨lb, j, none⟩ = some u := fun hn j u hj => (hBA.cell (p := ⟨lb, j, none⟩) (HTY.out.l hn)).trans (recs3_of HTY.out.r j u hj)
                   refine step_append_copy (by rfl) _ _ _ (by rfl) w2.heap.size 65 r0 (.agg #[.string ⟨#[]⟩, .slice none 0 0, .slice none 0 0]) 3 64 Tryd.underlying28 M1.out M2.out M3.out M4.out rfl (by omega) la lb N lc (recs3 RN RV G CT CC N) HNIL.out hla (by rfl) (by rfl) (by rw [recs3_len]) (fun hn j u hj => (by with_reducible exact HNW hn j u hj)) (recs3_cell _ _ _ _ _ _) (by unfold maxLen; omega) (by omega) (by simp) ?_
                   clear HNW
                   intro v0 wb hown0 hgrow0
                   have HV0B := Lib.hid hown0
                   have HG0B := Lib.hid hgrow0
                   have HLB : Hid (∀ j u, ([.string nm, .slice (some ⟨nb, 0, none⟩) m vc, .slice (some ⟨gb, 0, none⟩) m tc] : List Value)[j]? = some u → wb.cell? ((⟨w2.heap.size, 0, none⟩ : Addr).add j) = some u) := Lib.hid (fun j u hu => by have h1 : (World.drew (World.alloc w2 (.cells #[.string nm, .slice (some ⟨nb, 0, none⟩) m vc, .slice (some ⟨gb, 0, none⟩) m tc] 65))).cell? ((⟨w2.heap.size, 0, none⟩ : Addr).add j) = some u := World.news_of_block (cs := #[.string nm, .slice (some ⟨nb, 0, none⟩) m vc, .slice (some ⟨gb, 0, none⟩) m tc]) (t := 65) (fr := (0, 0)) (heap_alloc_new w2 _) j u hu; rw [hgrow0.cell_far _ (by unfold Addr.add; split <;> simp) (by simp)]; exact h1)
                   clear hown0 hgrow0 hBA))
            all_goals
              go_wp2_with fail
              go_ret2
              refine Or.inl ⟨rfl, gg, cap, rfl, ?_, (HTW.out _ HBR.out).trans (HBZ9.out.mono (HTW.out _ HBR.out).size)⟩
              rw [recs3_one]
              exact own_mono HVB.out (HTW.out _ HBR.out).size
          · omega
          · subst hc
            subst hm0
            go_wp2_with fail
            go_ret2
            exact Or.inr ⟨by decide, rfl, HTW.out _ HBR.out⟩
end
end Go.Proofs.YtoajcggiccfaiaaDoor
