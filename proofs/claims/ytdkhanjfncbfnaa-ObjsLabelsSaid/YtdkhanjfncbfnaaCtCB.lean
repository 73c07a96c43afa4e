import Derived.Test.YtdkhanjfncbfnaaCtCA
import Derived.Deep.RegionLaw
namespace Go.Proofs.Ytdkhanjfncbfnaa
open Go Go.RowKit
set_option linter.unusedVariables false
set_option linter.unusedSimpArgs false

/-- What a field's own block holds. -/
structure FBlkT (w : World) (F : Nat) (nm : ByteArray) (t : Ty) (el : Option Addr) : Prop where
  c0 : w.cell? ⟨F, 0, none⟩ = some (.string nm)
  c1 : w.cell? ⟨F, 1, none⟩ = some (.int .i64 t.kind)
  c2 : w.cell? ⟨F, 2, none⟩ = some (.int .i64 t.size)
  c3 : w.cell? ⟨F, 3, none⟩ = some (.bool t.sg)
  c4 : w.cell? ⟨F, 4, none⟩ = some (.bool t.sc)
  c5 : w.cell? ⟨F, 5, none⟩ = some (.pointer el)
  c6 : w.cell? ⟨F, 6, none⟩ = some (.int .i64 t.len)
  c7 : w.cell? ⟨F, 7, none⟩ = some (.int .i64 t.num)
  c8 : w.cell? ⟨F, 8, none⟩ = some (.slice none 0 0)
  c9 : w.cell? ⟨F, 9, none⟩ = some (.pointer none)
theorem FBlkT.below {w w' : World} {F : Nat} {nm : ByteArray} {t : Ty} {el : Option Addr} {lim : Nat} (h : FBlkT w F nm t el) (hb : Below lim w w') (hl : F < lim) : FBlkT w' F nm t el := by
  obtain ⟨h0, h1, h2, h3, h4, h5, h6, h7, h8, h9⟩ := h
  constructor <;> (rw [hb.cell (by exact hl)]) <;> assumption
theorem FBlkT.grown {w w' : World} {F : Nat} {nm : ByteArray} {t : Ty} {el : Option Addr} {row : Option Nat} (h : FBlkT w F nm t el) (hg : w.grownBy w' row) (hne : some F ≠ row) (hl : F < w.heap.size) : FBlkT w' F nm t el := by
  obtain ⟨h0, h1, h2, h3, h4, h5, h6, h7, h8, h9⟩ := h
  constructor <;> (rw [hg.cell_far _ hl hne]) <;> assumption

/-- The blocks from base on, the row's own aside. -/
def PB (base : Nat) (v : Value) (w : World) (b : Nat) : Prop := base ≤ b ∧ b < w.heap.size ∧ v.ownBlock ≠ some b

/-- After a field was appended. -/
def LayK (R base : Nat) (W : World) (k : Nat) (NM : Nat → ByteArray) (TY : Nat → Ty) (AT : Nat → Int) (E A : Int) (wx : World) : Prop :=
  ∃ gg cap EL, RecAt wx R (.slice (some ⟨gg, 0, none⟩) (k + 1) cap) E A ∧ wx.ownsRow base 61 11 (.slice (some ⟨gg, 0, none⟩) (k + 1) cap) (k + 1) (cellsT NM TY EL AT (k + 1)) ∧ (∀ i, i < k + 1 → ElIn wx (PB base (.slice (some ⟨gg, 0, none⟩) (k + 1) cap) wx) (TY i) (EL i)) ∧ Below R W wx

/-- What layOut answers: the record, or a fault. -/
def LayEnd (n : Nat) (SZ AL : Nat → Int) (m : Nat) (NM : Nat → ByteArray) (TY : Nat → Ty) (code : Int) (w : World) (e : Ending) (w' : World) : Prop :=
  (code = 0 ∧ ∃ g c EL, e = .returned (.tuple #[.agg #[.string ⟨#[]⟩, .slice (some ⟨g, 0, none⟩) m c, .int .i64 (upM (endT n SZ AL TY m) (alT n AL TY m)), .int .i64 (alT n AL TY m)], .int .i64 0]) ∧ GRow w' g m NM TY EL (offT n SZ AL TY) ∧ w.heap.size ≤ g ∧ g < w'.heap.size ∧ (∀ i, i < m → ElIn w' (fun b => w.heap.size ≤ b ∧ b < w'.heap.size) (TY i) (EL i)) ∧ Below w.heap.size w w')
  ∨ (code ≠ 0 ∧ e = .returned (.tuple #[.agg #[.string ⟨#[]⟩, .slice none 0 0, .int .i64 0, .int .i64 0], .int .i64 code]) ∧ Below w.heap.size w w')

/-- Up to field J all is well; at J: the end, or a fault. -/
def FaultAt (n : Nat) (SZ AL : Nat → Int) (NM : Nat → ByteArray) (TY : Nat → Ty) (J : Nat) (code : Int) : Prop :=
  (code = 13 ∧ ∃ j, j < J ∧ NM j = NM J ∧ ∀ i, i < j → ((NM i).toList == (NM j).toList) = false)
  ∨ (code = 14 ∧ (∀ j, j < J → ((NM j).toList == (NM J).toList) = false) ∧ sizeM n SZ (TY J) = 0)
  ∨ (code = 5 ∧ (∀ j, j < J → ((NM j).toList == (NM J).toList) = false) ∧ sizeM n SZ (TY J) ≠ 0 ∧ 32768 < endT n SZ AL TY (J + 1))

theorem max_if (A L : Int) : max A L = if A < L then L else A := by split <;> omega
theorem rowOk_end {n : Nat} {SZ AL : Nat → Int} {J : Nat} {NM : Nat → ByteArray} {TY : Nat → Ty} (h : RowOk n SZ AL J NM TY) (k : Nat) (hk : k ≤ J) : endT n SZ AL TY k ≤ 32768 := by
  cases k with
  | zero => unfold endT; omega
  | succ k => exact h.e k (by omega)

set_option maxRecDepth 100000 in
set_option maxHeartbeats 16000000 in
theorem layOut_any (tb rb n rc : Nat) (hn : n ≤ 1000000) (a : Option Addr) (SN : Nat → ByteArray) (FA : Nat → Option Addr) (FN FC : Nat → Nat) (SZ AL : Nat → Int) (hs : ∀ k, k < n → 0 ≤ SZ k ∧ SZ k ≤ 1099511627776) (ha : ∀ k, k < n → 1 ≤ AL k ∧ AL k ≤ 8)
    (fb fc m J : Nat) (hm1 : 1 ≤ m) (hm2 : m ≤ 20) (hJ : J ≤ m) (NM : Nat → ByteArray) (TY : Nat → Ty) (EL0 : Nat → Option Addr) (ok : ∀ i, i < m → OkT (TY i)) (hR : RowOk n SZ AL J NM TY) (code : Int) (hD : (J = m ∧ code = 0) ∨ (J < m ∧ FaultAt n SZ AL NM TY J code))
    (w : World) (hfb : fb < w.heap.size) (hr : GRow w fb m NM TY EL0 (fun _ => 0)) (hel : ∀ i, i < m → ElAt w 0 w.heap.size (TY i) (EL0 i)) (ht : TabN w tb rb n rc a SN FA FN FC SZ AL) :
    Calls Try.prog 38 #[.pointer (some ⟨tb, 0, none⟩), .slice (some ⟨fb, 0, none⟩) m fc] w (LayEnd n SZ AL m NM TY code w) := by
  obtain ⟨i0, hi, hz0, hz1, hz2⟩ := info_parts infoFld
  have hO := Lib.hid hR
  have HD := Lib.hid hD
  have HR := Lib.hid hr
  have HEL0 := Lib.hid hel
  have HT0 := Lib.hid ht
  have HOK := Lib.hid ok
  have HE0 := Lib.hid (fun k (hk : k ≤ J) => endT_nonneg n SZ AL TY hs ha k (fun i hi => ok i (by omega)))
  have HA0 := Lib.hid (fun k (hk : k ≤ m) => alT_range n AL TY k ha (fun i hi => ok i (by omega)))
  have HAL := Lib.hid (fun k (hk : k < m) => alignM_range n AL ha (TY k) (ok k hk))
  have HSZ := Lib.hid (fun k (hk : k < m) => sizeM_range n SZ hs (TY k) (ok k hk))
  have HS := Lib.hid (fun (k : Nat) (hk : k < m) (el : Option Addr) (w : World) h1 h2 => size_any tb rb n rc hn a SN FA FN FC SZ AL hs (TY k) (ok k hk) el w h1 h2)
  have HL := Lib.hid (fun (k : Nat) (el : Option Addr) (w : World) h1 h2 => align_any tb rb n rc hn a SN FA FN FC SZ AL (TY k) el w h1 h2)
  have htb := World.block_lt_of_cell? w _ ht.t
  simp at htb
  have HTB := Lib.hid htb
  have I1 := Lib.hid hi
  have I2 := Lib.hid hz0
  have I3 := Lib.hid hz1
  have I4 := Lib.hid hz2
  clear hR hD hr hel ht ok hs ha htb hi hz0 hz1 hz2
  go_enter Try.func38, Try.ntmps38
  go_wp2_with fail
  generalize hW : (w.alloc (.cells #[.string ⟨#[]⟩, .slice none 0 0, .int .i64 0, .int .i64 0] 110)).alloc (.cells #[.string ⟨#[]⟩, .slice none 0 0, .int .i64 0, .int .i64 1] 110) = W
  have hB0 : Below w.heap.size w W := by rw [← hW]; exact ((Below.refl _ _).alloc (Nat.le_refl _) _).alloc (by simp) _
  have hsW : W.heap.size = w.heap.size + 2 := by rw [← hW]; simp
  have hrc : RecAt W (w.heap.size + 1) (.slice none 0 0) 0 1 := by rw [← hW]; constructor <;> simp
  have hr0 : RecAt W w.heap.size (.slice none 0 0) 0 0 := by rw [← hW]; constructor <;> simp
  have HB0 := Lib.hid hB0
  have HSW := Lib.hid hsW
  have HRC := Lib.hid hrc
  have HR0 := Lib.hid hr0
  clear hB0 hsW hrc hr0 hW
  go_loopw [17] (fun vi wr => ∃ (k : Nat) (v : Value) (EL : Nat → Option Addr), vi = .int .i64 k ∧ k ≤ J ∧ Below (w.heap.size + 1) W wr ∧ RecAt wr (w.heap.size + 1) v (endT n SZ AL TY k) (alT n AL TY k) ∧ wr.ownsRow (w.heap.size + 2) 61 11 v k (cellsT NM TY EL (offT n SZ AL TY) k) ∧ ∀ i, i < k → ElIn wr (PB (w.heap.size + 2) v wr) (TY i) (EL i)) (fun vi _ => m - (intOf vi).toNat)
  case atStart => exact ⟨0, .slice none 0 0, fun _ => none, rfl, by omega, Below.refl _ _, HRC.out, World.ownsRow_nil _ _ _ _, fun i hi => by omega⟩
  case round =>
    obtain ⟨k, v, EL, rfl, hk, hb, hrec, hown, hels⟩ := hrel
    have HB := Lib.hid hb
    have HREC := Lib.hid hrec
    have HOWN := Lib.hid hown
    have HELS := Lib.hid hels
    have hzr : w.heap.size + 2 ≤ wr.heap.size := by have := hb.size; have := HSW.out; omega
    clear hb hrec hown hels
    by_cases hlt : k < m
    · have hcase : (k < J ∧ (∀ j, j < k → ((NM j).toList == (NM k).toList) = false) ∧ sizeM n SZ (TY k) ≠ 0 ∧ endT n SZ AL TY (k + 1) ≤ 32768) ∨ (k = J ∧ FaultAt n SZ AL NM TY k code) := by
        rcases Nat.lt_or_ge k J with h | h
        · exact Or.inl ⟨h, fun j hj => hO.out.d k h j hj, hO.out.s k h, hO.out.e k h⟩
        · obtain rfl : k = J := by omega
          rcases HD.out with ⟨h1, _⟩ | ⟨_, h2⟩
          · omega
          · exact Or.inr ⟨rfl, h2⟩
      have HCASE := Lib.hid hcase
      clear hcase
      obtain ⟨h0, h1, h2, h3, h4, h5, h6, h7, h8, h9, h10⟩ := ((HR.out k hlt).below HB0.out hfb).below (lim := w.heap.size + 1) HB.out (by omega)
      have htr := (HT0.out.below HTB.out HB0.out)
      have htr2 : TabN wr tb rb n rc a SN FA FN FC SZ AL := by
        obtain ⟨q0, q1, q2, q3⟩ := HT0.out
        have hbw : Below w.heap.size w wr := HB0.out.trans (HB.out.mono (by omega))
        exact HT0.out.below HTB.out hbw
      have HTR := Lib.hid htr2
      have hbw : Below w.heap.size w wr := HB0.out.trans (HB.out.mono (by omega))
      have helr := ((HEL0.out k hlt).below hbw (Nat.le_refl _)).mono (Nat.le_refl _) hbw.size
      have HELR := Lib.hid helr
      clear htr htr2 hbw helr
      go_upto_region 5 with fail
      generalize hV : wr.alloc (.cells #[.string (NM k), .int .i64 (TY k).kind, .int .i64 (TY k).size, .bool (TY k).sg, .bool (TY k).sc, .pointer (EL0 k), .int .i64 (TY k).len, .int .i64 (TY k).num, .slice none 0 0, .pointer none, .int .i64 0] 61) = V
      have hBV : Below wr.heap.size wr V := by rw [← hV]; exact (Below.refl _ _).alloc (Nat.le_refl _) _
      have hsV : V.heap.size = wr.heap.size + 1 := by rw [← hV]; simp
      have hfv : FBlkT V wr.heap.size (NM k) (TY k) (EL0 k) := by rw [← hV]; constructor <;> simp
      obtain ⟨F, hFd⟩ : ∃ F, F = wr.heap.size := ⟨_, rfl⟩
      rw [← hFd] at hfv
      have HFV := Lib.hid hfv
      have HBV := Lib.hid hBV
      have HSV := Lib.hid hsV
      have HFD := Lib.hid hFd
      have htv := HTR.out.below (by have := HTB.out; omega) hBV
      have HTV := Lib.hid htv
      have helv := (HELR.out.below hBV (Nat.le_refl _)).mono (Nat.le_refl _) hBV.size
      have HELV := Lib.hid helv
      have HTBV := Lib.hid (show tb < V.heap.size by have := HTB.out; omega)
      clear h0 h1 h2 h3 h4 h5 h6 h7 h8 h9 h10 hV hBV hsV htv helv
      rw [← hFd]
      clear hFd hzr
      obtain ⟨v0, v1, v2, v3, v4, v5, v6, v7, v8, v9⟩ := hfv
      have hSk := HS.out k hlt
      have hLk := HL.out k
      unfold tyV at hSk hLk
      have HSk := Lib.hid hSk
      have HLk := Lib.hid hLk
      clear hSk hLk
      obtain ⟨X, hX⟩ : ∃ X, X = sizeM n SZ (TY k) := ⟨_, rfl⟩
      obtain ⟨L, hL⟩ : ∃ L, L = alignM n AL (TY k) := ⟨_, rfl⟩
      rw [← hX] at HSk
      rw [← hL] at HLk
      have HX := Lib.hid hX
      have HLD := Lib.hid hL
      clear hX hL
      go_region_held3 (fun w' => w'.cell? ⟨F, 1, none⟩ = some (.int .i64 (TY k).kind) ∧ w'.cell? ⟨F, 2, none⟩ = some (.int .i64 (TY k).size) ∧ w'.cell? ⟨F, 3, none⟩ = some (.bool (TY k).sg) ∧ w'.cell? ⟨F, 4, none⟩ = some (.bool (TY k).sc) ∧ w'.cell? ⟨F, 5, none⟩ = some (.pointer (EL0 k)) ∧ w'.cell? ⟨F, 6, none⟩ = some (.int .i64 (TY k).len) ∧ w'.cell? ⟨F, 7, none⟩ = some (.int .i64 (TY k).num) ∧ w'.cell? ⟨F, 8, none⟩ = some (.slice none 0 0) ∧ w'.cell? ⟨F, 9, none⟩ = some (.pointer none)) (go_keep)
        (first
          | (go_at_call 16
             (with_reducible refine (HSk.out (EL0 k) _ (HTV.out.below HTBV.out ((Below.refl _ _).drew)) ((HELV.out.below ((Below.refl V.heap.size V).drew) (Nat.le_refl _)).mono (Nat.le_refl _) ((Below.refl V.heap.size V).drew).size)).mono ?_)
             rintro e w1 ⟨rfl, hb1⟩
             have HB1 : Hid (Below V.heap.size V w1) := Lib.hid ((Below.refl _ _).drew.trans hb1)
             obtain ⟨v10, v11, v12, v13, v14, v15, v16, v17, v18, v19⟩ := HFV.out.below HB1.out (by have := HSV.out; have := HFD.out; omega)
             clear hb1)
          | (go_at_call 53
             (with_reducible refine (HLk.out (EL0 k) _ (HTV.out.below HTBV.out HB1.out) ((HELV.out.below HB1.out (Nat.le_refl _)).mono (Nat.le_refl _) HB1.out.size)).mono ?_)
             rintro e w2 ⟨rfl, hb2⟩
             have HB2 : Hid (Below V.heap.size V w2) := Lib.hid (HB1.out.trans (hb2.mono HB1.out.size))
             obtain ⟨v20, v21, v22, v23, v24, v25, v26, v27, v28, v29⟩ := HFV.out.below HB2.out (by have := HSV.out; have := HFD.out; omega)
             clear hb2))
      clear v0 v1 v2 v3 v4 v5 v6 v7 v8 v9 v10 v11 v12 v13 v14 v15 v16 v17 v18 v19
      obtain ⟨E, hE⟩ : ∃ E, E = endT n SZ AL TY k := ⟨_, rfl⟩
      obtain ⟨A, hA⟩ : ∃ A, A = alT n AL TY k := ⟨_, rfl⟩
      obtain ⟨U, hU⟩ : ∃ U, U = upM (endT n SZ AL TY k) (alignM n AL (TY k)) := ⟨_, rfl⟩
      have hE1 := HE0.out k hk
      have hE2 := rowOk_end hO.out k hk
      have hL1 := (HAL.out k hlt).1
      have hL2 := (HAL.out k hlt).2
      have hU1 := (upM_ge (endT n SZ AL TY k) _ hL1).1
      have hU2 := (upM_ge (endT n SZ AL TY k) _ hL1).2
      have hA1 := (HA0.out k (by omega)).1
      have hA2 := (HA0.out k (by omega)).2
      have hX1 := (HSZ.out k hlt).1
      have hX2 := (HSZ.out k hlt).2
      rw [← hU] at hU1 hU2
      rw [← HX.out] at hX1 hX2
      rw [← HLD.out] at hL1 hL2 hU2
      rw [← hE] at hE1 hE2 hU1 hU2
      rw [← hA] at hA1 hA2
      have hrecV := (HREC.out.below HBV.out (by have := HSV.out; have := HB.out.size; have := HSW.out; omega)).below HB2.out (by have := HSV.out; have := HB.out.size; have := HSW.out; omega)
      have hown2 := ownsRow_below (ownsRow_below HOWN.out HBV.out) HB2.out
      rw [← hE, ← hA] at hrecV
      have HREC2 := Lib.hid hrecV
      have HOWN2 := Lib.hid hown2
      have HE := Lib.hid hE
      have HA := Lib.hid hA
      have HU := Lib.hid (show U = upM E L by rw [HLD.out, hE]; exact hU)
      have HU0 := Lib.hid hU
      have HF2 := Lib.hid (HFV.out.below HB2.out (by have := HSV.out; have := HFD.out; omega))
      have HEN : Hid (endT n SZ AL TY (k + 1) = U + X) := Lib.hid (by rw [hU, HX.out]; rfl)
      have HAN : Hid (alT n AL TY (k + 1) = max A L) := Lib.hid (by rw [hA, HLD.out]; rfl)
      have HWA : Hid (Below (w.heap.size + 1) W w2) := Lib.hid ((HB.out.trans (HBV.out.mono (by have := HB.out.size; have := HSW.out; omega))).trans (HB2.out.mono (by have := HSV.out; have := HB.out.size; have := HSW.out; omega)))
      obtain ⟨r0, r1, r2, r3, q0, q1, q2, q3⟩ := hrecV
      clear hE hA hU hown2
      have hlR2 : w.heap.size + 1 < w2.heap.size := by have := HWA.out.size; have := HSW.out; omega
      rcases HCASE.out with ⟨hkJ, hnn, hsz, hen⟩ | ⟨rfl, ⟨rfl, j, hj, hjn, hjm⟩ | ⟨rfl, hnn, hsz⟩ | ⟨rfl, hnn, hsz, hen⟩⟩
      · -- a field that is well
        rw [← HX.out] at hsz
        rw [HEN.out] at hen
        have hX0 : (X == 0) = false := by simpa using hsz
        have HNN := Lib.hid hnn
        have HSZ0 := Lib.hid hsz
        clear hnn hsz
        go_wp2_with (first
          | (go_at_call 54
             refine (up_any E L _ hE1 (by omega) hL1 (by omega)).mono ?_
             rintro e w' ⟨rfl, rfl⟩
             rw [← HU.out])
          | (go_at_call 55
             refine (fieldOfT_row v (w.heap.size + 2) k (by omega) NM TY EL (offT n SZ AL TY) (NM k) _ HOWN2.out HNN.out).mono ?_
             rintro e w3 ⟨rfl, hb3⟩
             have HB23 : Hid (Below w2.heap.size w2 w3) := Lib.hid hb3
             clear hb3
             unfold fld0))
        generalize hZ : w3.alloc (.cells #[.string ⟨#[]⟩, .int .i64 0, .int .i64 0, .bool false, .bool false, .pointer none, .int .i64 0, .int .i64 0, .slice none 0 0, .pointer none, .int .i64 0] 61) = Z
        have hB3 : Below w2.heap.size w2 Z := by rw [← hZ]; exact HB23.out.alloc HB23.out.size _
        have HB3 := Lib.hid hB3
        have hB4 : Below V.heap.size V Z := HB2.out.trans (hB3.mono HB2.out.size)
        have HBZ := Lib.hid hB4
        have hlF : F < w2.heap.size := by have := HB2.out.size; have := HSV.out; have := HFD.out; omega
        have hlR : w.heap.size + 1 < F := by have := HFD.out; have := HB.out.size; have := HSW.out; omega
        have hfZ := HF2.out.below hB3 hlF
        have hrZ := HREC2.out.below hB3 (by omega)
        have HFZ := Lib.hid hfZ
        have HRZ := Lib.hid hrZ
        have HOWNZ := Lib.hid (ownsRow_below HOWN2.out hB3)
        have HNF := Lib.hid (show some F ≠ v.ownBlock by intro h; have := (HOWN.out.lt F h.symm).2; have := HFD.out; omega)
        have HNR := Lib.hid (show some (w.heap.size + 1) ≠ v.ownBlock by intro h; have := (HOWN.out.lt _ h.symm).1; omega)
        have HLZ := Lib.hid (show F < Z.heap.size by have := hB3.size; omega)
        have HLR := Lib.hid hlR
        have HELZ := Lib.hid (((HELV.out.below HBZ.out (Nat.le_refl _)).mono (Nat.le_refl _) HBZ.out.size : ElAt Z 0 Z.heap.size (TY k) (EL0 k)))
        have hFR := fun w h => fresh_any (TY k) (EL0 k) w h
        unfold tyV at hFR
        have HFR := Lib.hid hFR
        clear hFR
        have zr1 := hrZ.c1
        obtain ⟨z0, z1, z2, z3, z4, z5, z6, z7, z8, z9⟩ := hfZ
        clear hZ hB3 hB4 hlF hlR hrZ r0 r1 r2 r3 q0 q1 q2 q3 v20 v21 v22 v23 v24 v25 v26 v27 v28 v29
        go_cut [11] (fun s11 wx => s11 = .int .i64 U ∧ LayK (w.heap.size + 1) (w.heap.size + 2) W k NM TY (offT n SZ AL TY) E A wx)
        case first =>
          go_region_law
            (first
              | (go_simp
                 go_at_call 42
                 (with_reducible refine (HFR.out _ ((HELZ.out.below ((Below.refl Z.heap.size Z).drew) (Nat.le_refl _)).mono (Nat.le_refl _) ((Below.refl Z.heap.size Z).drew).size)).mono ?_)
                 rintro e w4 ⟨el1, rfl, hel1, hb4⟩
                 have HEL1 : Hid (ElAt w4 Z.heap.size w4.heap.size (TY k) el1) := Lib.hid hel1
                 have HB4 : Hid (Below Z.heap.size Z w4) := Lib.hid ((Below.refl _ _).drew.trans hb4)
                 have HF4 := Lib.hid (HFZ.out.below HB4.out HLZ.out)
                 have HR4 := Lib.hid (HRZ.out.below HB4.out (by have := HLZ.out; have := HLR.out; omega))
                 have HOWN4 := Lib.hid (ownsRow_below HOWNZ.out HB4.out)
                 have zr14 := HR4.out.c1
                 have hR4l : w.heap.size + 1 < w4.heap.size := by have := HLZ.out; have := HLR.out; have := HB4.out.size; omega
                 have hR4n : w.heap.size + 1 ≠ w4.heap.size := by omega
                 have hF4l : F < w4.heap.size := by have := HLZ.out; have := HB4.out.size; omega
                 have hF4n : F ≠ w4.heap.size := by omega
                 obtain ⟨z40, z41, z42, z43, z44, z45, z46, z47, z48, z49⟩ := HF4.out
                 unfold tyV
                 clear hel1 hb4)
              | ((refine step_append_lies _ (by rfl) _ _ _ (by rfl) (w.heap.size + 2) 61 i0 fld0 11 104 Try.underlying53 I1.out I2.out I3.out I4.out rfl (by omega) v k (cellsT NM TY EL (offT n SZ AL TY) k) (by rfl) (HOWN4.out.alloc _)
                        ⟨w4.heap.size, 0, none⟩ 1 1 [.string (NM k), .int .i64 (TY k).kind, .int .i64 (TY k).size, .bool (TY k).sg, .bool (TY k).sc, .pointer el1, .int .i64 (TY k).len, .int .i64 (TY k).num, .slice none 0 0, .pointer none, .int .i64 U] (by rfl) (by rfl) (World.news_of_block (cs := #[.string (NM k), .int .i64 (TY k).kind, .int .i64 (TY k).size, .bool (TY k).sg, .bool (TY k).sc, .pointer el1, .int .i64 (TY k).len, .int .i64 (TY k).num, .slice none 0 0, .pointer none, .int .i64 U]) (t := 61) (fr := (0, 0)) (heap_alloc_new w4 _)) (by simp [Value.oneCell'])
                        (by omega) (by unfold maxLen; omega) (by omega) (by have := HLZ.out; have := HLR.out; have := HB4.out.size; simp; omega) (w4.heap.size + 1) (by simp) ?_)
                 intro gg cap w5 hown5 hgrow hat hlt5
                 have HAT := Lib.hid hat
                 have HAL : Hid (Below w4.heap.size w4 (w4.alloc (.cells #[.string (NM k), .int .i64 (TY k).kind, .int .i64 (TY k).size, .bool (TY k).sg, .bool (TY k).sc, .pointer el1, .int .i64 (TY k).len, .int .i64 (TY k).num, .slice none 0 0, .pointer none, .int .i64 U] 61))) := Lib.hid ((Below.refl _ _).alloc (Nat.le_refl _) _)
                 have HL4 : Hid (F < w4.heap.size) := Lib.hid (by have := HLZ.out; have := HB4.out.size; omega)
                 have HF5 := Lib.hid ((HF4.out.below HAL.out HL4.out).grown hgrow HNF.out (by have := HL4.out; simp; omega))
                 have HR5 := Lib.hid ((HR4.out.below HAL.out (by have := HL4.out; have := HLR.out; omega)).grown hgrow HNR.out (by have := HL4.out; have := HLR.out; simp; omega))
                 have HG := Lib.hid hgrow
                 have HOWN5 := Lib.hid hown5
                 have zr15 := HR5.out.c1
                 have zf15 := HR5.out.f1
                 have HNE : F ≠ w.heap.size + 1 := (by have := HLR.out; omega)
                 have HNE2 : w.heap.size + 1 ≠ F := (by have := HLR.out; omega)
                 obtain ⟨z50, z51, z52, z53, z54, z55, z56, z57, z58, z59⟩ := HF5.out
                 clear hown5 hgrow hat))
          all_goals
            go_wp2_with fail
            go_meet
            have hrow : ∀ g, v.ownBlock = some g → w.heap.size + 2 ≤ g ∧ g < wr.heap.size := fun g h => HOWN.out.lt g h
            have hw4 : wr.heap.size ≤ w4.heap.size := by have := HB4.out.size; have := HBZ.out.size; have := HBV.out.size; omega
            have hw5 : w4.heap.size + 1 ≤ w5.heap.size := by have := HG.out.size; simp at this; omega
            have hwz : wr.heap.size ≤ Z.heap.size := by have := HBZ.out.size; have := HBV.out.size; omega
            have b04 : Below wr.heap.size wr w4 := (HBV.out.trans (HBZ.out.mono (by have := HSV.out; omega))).trans (HB4.out.mono hwz)
            have b4a : Below w4.heap.size w4 (w4.alloc (.cells #[.string (NM k), .int .i64 (TY k).kind, .int .i64 (TY k).size, .bool (TY k).sg, .bool (TY k).sc, .pointer el1, .int .i64 (TY k).len, .int .i64 (TY k).num, .slice none 0 0, .pointer none, .int .i64 U] 61)) := HAL.out
            have hfar : ∀ b, w.heap.size + 2 ≤ b → b < w4.heap.size → v.ownBlock ≠ some b → ∀ o, (w5.setCell ⟨w.heap.size + 1, 1, none⟩ (.slice (some ⟨gg, 0, none⟩) (k + 1) cap)).cell? ⟨b, o, none⟩ = w4.cell? ⟨b, o, none⟩ := fun b h1 h2 h3 o => by
              rw [World.cell?_of_block (Below.heap_setCell w5 _ _ b (by simp; omega)), HG.out.cell_far _ (by simp; omega) (by exact fun h => h3 h.symm)]
              exact b4a.cell (p := ⟨b, o, none⟩) h2
            refine ⟨rfl, gg, cap, fun i => if i < k then EL i else el1, HR5.out.set1, ownsRow_setCell_below ?_ (by simp) _, ?_, ?_⟩
            · have := HOWN5.out
              rw [cellsT, cellsT_congr (EL := fun i => if i < k then EL i else el1) (EL' := EL) k (fun i hi => if_pos hi)]
              have hu : offT n SZ AL TY k = U := HU0.out.symm
              rw [hu]
              simp only [Nat.lt_irrefl, if_false]
              exact this
            · intro i hi
              by_cases hik : i < k
              · simp only [if_pos hik]
                refine (HELS.out i hik).keep (fun b hb o => ?_) (fun b hb => ?_)
                · obtain ⟨h1, h2, h3⟩ := hb
                  rw [hfar b h1 (by omega) h3 o]
                  exact b04.cell (p := ⟨b, o, none⟩) h2
                · obtain ⟨h1, h2, h3⟩ := hb
                  refine ⟨h1, by simp; omega, ?_⟩
                  intro h
                  have hg : gg = b := by simpa [Value.ownBlock] using h
                  rcases HAT.out with h4 | h4
                  · rw [h4, hg] at h3; exact h3 rfl
                  · omega
              · obtain rfl : i = k := by omega
                simp only [Nat.lt_irrefl, if_false]
                have hnb : ∀ b, wr.heap.size ≤ b → v.ownBlock ≠ some b := fun b h1 h2 => by have := (hrow b h2).2; omega
                have hbase : w.heap.size + 2 ≤ wr.heap.size := by have := HB.out.size; have := HSW.out; omega
                refine ElIn.keep (P := fun b => Z.heap.size ≤ b ∧ b < w4.heap.size) (fun b hb o => ?_) (fun b hb => ?_) (ElIn.of (fun b h1 h2 => ⟨h1, h2⟩) HEL1.out)
                · exact hfar b (by omega) hb.2 (hnb b (by omega)) o
                · refine ⟨by omega, by simp; omega, ?_⟩
                  intro h
                  have hg : gg = b := by simpa [Value.ownBlock] using h
                  rcases HAT.out with h4 | h4
                  · have := (hrow gg h4).2; omega
                  · omega
            · have b1 : Below (w.heap.size + 1) W w4 := ((HB.out.trans (HBV.out.mono (by have := HFD.out; have := HLR.out; omega))).trans (HBZ.out.mono (by have := HSV.out; have := HFD.out; have := HLR.out; omega))).trans (HB4.out.mono (by have := HLZ.out; have := HLR.out; omega))
              have hrow : ∀ g, v.ownBlock = some g → w.heap.size + 1 ≤ g := fun g h => by have := (HOWN.out.lt g h).1; omega
              exact ((b1.alloc (by have := HL4.out; have := HLR.out; omega) _).grown HG.out (by have := HL4.out; have := HLR.out; simp; omega) hrow).setCell (by simp) _
        case rest =>
          obtain ⟨rfl, gg, cap, EL', hrec, hown, hels, hbw⟩ := hcut
          obtain ⟨r0, r1, r2, r3, q0, q1, q2, q3⟩ := hrec
          have hrl : w.heap.size + 1 < wc.heap.size := by have := hbw.size; have := HSW.out; omega
          have HRW := Lib.hid (show RecAt wc (w.heap.size + 1) (.slice (some ⟨gg, 0, none⟩) (k + 1) cap) E A from ⟨r0, r1, r2, r3, q0, q1, q2, q3⟩)
          have HOW := Lib.hid hown
          have HBW := Lib.hid hbw
          have HELW := Lib.hid hels
          clear hown hbw hels
          go_wp2_with fail
          all_goals
            go_roundw
            case rel =>
              refine ⟨k + 1, .slice (some ⟨gg, 0, none⟩) (k + 1) cap, EL', by go_num, by omega, (HBW.out.setCell (by simp) _).setCell (by simp) _, ?_, ownsRow_setCell_below (ownsRow_setCell_below HOW.out (by simp) _) (by simp) _, ?_⟩
              · rw [HEN.out, HAN.out, max_if]
                have := (HRW.out.set2 (sz' := U + X)).set3 (al' := if A < L then L else A)
                first | exact this | (simpa using this)
              · intro i hi
                refine (HELW.out i hi).keep (fun b hb o => ?_) (fun b hb => ?_)
                · obtain ⟨h1, h2, h3⟩ := hb
                  rw [World.cell?_of_block (Below.heap_setCell _ _ _ b (by simp; omega)), World.cell?_of_block (Below.heap_setCell _ _ _ b (by simp; omega))]
                · obtain ⟨h1, h2, h3⟩ := hb
                  exact ⟨h1, by simpa using h2, h3⟩
            case measure => simp [intOf]; omega
      · -- the name stands already
        have hYES := fieldOfT_row_yes v (w.heap.size + 2) k j (by omega) hj NM TY EL (offT n SZ AL TY) w2 HOWN2.out hjm
        rw [hjn] at hYES
        have HYES := Lib.hid hYES
        clear hYES
        go_wp2_with (first
          | (go_at_call 54
             refine (up_any E L _ hE1 (by omega) hL1 (by omega)).mono ?_
             rintro e w' ⟨rfl, rfl⟩
             rw [← HU.out])
          | (go_at_call 55
             refine (HYES.out).mono ?_
             rintro e w3 ⟨rfl, hb3⟩
             have HB23 : Hid (Below w2.heap.size w2 w3) := Lib.hid hb3
             have hr03 := HR0.out.below (lim := w.heap.size + 1) (HWA.out.trans (hb3.mono (by omega))) (by omega)
             obtain ⟨t0, t1, t2, t3, p0, p1, p2, p3⟩ := hr03
             have hrl : w.heap.size < w3.heap.size := by have := hb3.size; omega
             have HBF : Hid (Below w.heap.size w w3) := Lib.hid ((HB0.out.trans (HWA.out.mono (by omega))).trans (hb3.mono (by omega)))
             clear hb3
             unfold fldT))
        all_goals 
          have hbw := HBF.out
          refine bodyPost_ret (v := .tuple #[.agg #[.string ⟨#[]⟩, .slice none 0 0, .int .i64 0, .int .i64 0], .int .i64 13]) ?_ rfl (Or.inr ⟨by decide, rfl, ?_⟩)
          · simp [results, Try.results38, go_sem, t0, t1, t2, t3, hrl]
          · ((repeat (first | (with_reducible exact hbw) | (with_reducible apply Below.setCell) | (with_reducible apply Below.alloc))) <;> first | omega | (simp <;> omega))
      · -- a type without a size
        rw [← HX.out] at hsz
        have hX0 : (X == 0) = true := by simpa using hsz
        have HNN := Lib.hid hnn
        have HSZ0 := Lib.hid hsz
        clear hnn hsz
        go_wp2_with (first
          | (go_at_call 54
             refine (up_any E L _ hE1 (by omega) hL1 (by omega)).mono ?_
             rintro e w' ⟨rfl, rfl⟩
             rw [← HU.out])
          | (go_at_call 55
             refine (fieldOfT_row v (w.heap.size + 2) k (by omega) NM TY EL (offT n SZ AL TY) (NM k) _ HOWN2.out HNN.out).mono ?_
             rintro e w3 ⟨rfl, hb3⟩
             have HB23 : Hid (Below w2.heap.size w2 w3) := Lib.hid hb3
             have hr03 := HR0.out.below (lim := w.heap.size + 1) (HWA.out.trans (hb3.mono (by omega))) (by omega)
             obtain ⟨t0, t1, t2, t3, p0, p1, p2, p3⟩ := hr03
             have hrl : w.heap.size < w3.heap.size := by have := hb3.size; omega
             have HBF : Hid (Below w.heap.size w w3) := Lib.hid ((HB0.out.trans (HWA.out.mono (by omega))).trans (hb3.mono (by omega)))
             clear hb3
             unfold fld0))
        all_goals 
          have hbw := HBF.out
          refine bodyPost_ret (v := .tuple #[.agg #[.string ⟨#[]⟩, .slice none 0 0, .int .i64 0, .int .i64 0], .int .i64 14]) ?_ rfl (Or.inr ⟨by decide, rfl, ?_⟩)
          · simp [results, Try.results38, go_sem, t0, t1, t2, t3, hrl]
          · ((repeat (first | (with_reducible exact hbw) | (with_reducible apply Below.setCell) | (with_reducible apply Below.alloc))) <;> first | omega | (simp <;> omega))
      · -- too long
        rw [← HX.out] at hsz
        rw [HEN.out] at hen
        have hX0 : (X == 0) = false := by simpa using hsz
        have HNN := Lib.hid hnn
        have HSZ0 := Lib.hid hsz
        clear hnn hsz
        go_wp2_with (first
          | (go_at_call 54
             refine (up_any E L _ hE1 (by omega) hL1 (by omega)).mono ?_
             rintro e w' ⟨rfl, rfl⟩
             rw [← HU.out])
          | (go_at_call 55
             refine (fieldOfT_row v (w.heap.size + 2) k (by omega) NM TY EL (offT n SZ AL TY) (NM k) _ HOWN2.out HNN.out).mono ?_
             rintro e w3 ⟨rfl, hb3⟩
             have HB23 : Hid (Below w2.heap.size w2 w3) := Lib.hid hb3
             have hr03 := HR0.out.below (lim := w.heap.size + 1) (HWA.out.trans (hb3.mono (by omega))) (by omega)
             obtain ⟨t0, t1, t2, t3, p0, p1, p2, p3⟩ := hr03
             have hrl : w.heap.size < w3.heap.size := by have := hb3.size; omega
             have HBF : Hid (Below w.heap.size w w3) := Lib.hid ((HB0.out.trans (HWA.out.mono (by omega))).trans (hb3.mono (by omega)))
             clear hb3
             unfold fld0))
        all_goals 
          have hbw := HBF.out
          refine bodyPost_ret (v := .tuple #[.agg #[.string ⟨#[]⟩, .slice none 0 0, .int .i64 0, .int .i64 0], .int .i64 5]) ?_ rfl (Or.inr ⟨by decide, rfl, ?_⟩)
          · simp [results, Try.results38, go_sem, t0, t1, t2, t3, hrl]
          · ((repeat (first | (with_reducible exact hbw) | (with_reducible apply Below.setCell) | (with_reducible apply Below.alloc))) <;> first | omega | (simp <;> omega))
    · obtain rfl : k = m := by omega
      obtain ⟨rfl, rfl⟩ : J = k ∧ code = 0 := by
        rcases HD.out with ⟨h1, h2⟩ | ⟨h1, h2⟩
        · exact ⟨h1, h2⟩
        · omega
      have hzR := HSW.out
      obtain ⟨gg, cap, hv, hg1, hg2⟩ := HOWN.out.form (by omega)
      subst hv
      obtain ⟨r0, r1, r2, r3, q0, q1, q2, q3⟩ := HREC.out
      obtain ⟨t0, t1, t2, t3, p0, p1, p2, p3⟩ := HR0.out.below (lim := w.heap.size + 1) HB.out (by omega)
      have hA1 := (HA0.out J (by omega)).1
      have hA2 := (HA0.out J (by omega)).2
      have hE1 := HE0.out J (by omega)
      have hE2 := rowOk_end hO.out J (by omega)
      have hrl : w.heap.size < wr.heap.size := by omega
      have hrl1 : w.heap.size + 1 < wr.heap.size := by omega
      have hk0 : ((J : Int) == 0) = false := by simpa using (by omega : J ≠ 0)
      have hBB := HB0.out.trans (HB.out.mono (by omega))
      have HBB := Lib.hid hBB
      have HG1 := Lib.hid hg1
      have HG2 := Lib.hid hg2
      obtain ⟨E, hE⟩ : ∃ E, E = endT n SZ AL TY J := ⟨_, rfl⟩
      obtain ⟨A, hA⟩ : ∃ A, A = alT n AL TY J := ⟨_, rfl⟩
      rw [← hE] at hE1 hE2 r2
      rw [← hA] at hA1 hA2 r3
      have HE := Lib.hid hE
      have HA := Lib.hid hA
      clear hg1 hg2 hBB hzR hE hA
      go_wp2_with (go_at_call 54; refine (up_any E A _ hE1 (by omega) hA1 (by omega)).mono ?_; rintro e w' ⟨rfl, rfl⟩)
      have hbw := HBB.out
      have hg1 := HG1.out
      have hg2 := HG2.out
      refine bodyPost_ret (v := .tuple #[.agg #[.string ⟨#[]⟩, .slice (some ⟨gg, 0, none⟩) J cap, .int .i64 (upM E A), .int .i64 A], .int .i64 0]) ?_ rfl (Or.inl ⟨rfl, gg, cap, EL, by rw [HE.out, HA.out], ?_, by omega, by simp; omega, ?_, ?_⟩)
      · simp [results, Try.results38, go_sem, t0, t1, t2, t3, hrl]
      · have h1 : ∀ {w2 : World} {p : Addr} {u : Value}, w2.ownsRow (w.heap.size + 2) 61 11 (.slice (some ⟨gg, 0, none⟩) J cap) J (cellsT NM TY EL (offT n SZ AL TY) J) → p.block < w.heap.size + 2 → (w2.setCell p u).ownsRow (w.heap.size + 2) 61 11 (.slice (some ⟨gg, 0, none⟩) J cap) J (cellsT NM TY EL (offT n SZ AL TY) J) := fun h hp => ownsRow_setCell_below h hp _
        refine grow_of_owns (base := w.heap.size + 2) (cap := cap) ?_
        have h0 := HOWN.out
        ((repeat (first | (with_reducible exact h0) | (with_reducible apply h1))) <;> first | omega | (simp <;> omega))
      · intro i hi
        refine (HELS.out i hi).keep (fun b hb o => ?_) (fun b hb => ⟨by have := hb.1; omega, by simpa using hb.2.1⟩)
        obtain ⟨h1, h2, h3⟩ := hb
        have h4 : ∀ {w2 : World} {p : Addr} {u : Value}, w2.cell? ⟨b, o, none⟩ = wr.cell? ⟨b, o, none⟩ → p.block < w.heap.size + 2 → (w2.setCell p u).cell? ⟨b, o, none⟩ = wr.cell? ⟨b, o, none⟩ := fun {w2 p u} h hp => by rw [World.cell?_of_block (Below.heap_setCell w2 p u b (by omega))]; exact h
        ((repeat (first | (with_reducible rfl) | (with_reducible apply h4))) <;> first | omega | (simp <;> omega))
      · ((repeat (first | (with_reducible exact hbw) | (with_reducible apply Below.setCell) | (with_reducible apply Below.alloc))) <;> first | omega | (simp <;> omega))
end Go.Proofs.Ytdkhanjfncbfnaa
