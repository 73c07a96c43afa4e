import Derived.Test.YtdkhanjfncbfnaaCtK
import Derived.Deep.RegionLaw
namespace Go.Proofs.Ytdkhanjfncbfnaa
open Go Go.RowKit

def fldL (nm : ByteArray) (n a : Int) : List Value := [.string nm, .int .i64 1, .int .i64 n, .bool true, .bool false, .pointer none, .int .i64 0, .int .i64 0, .slice none 0 0, .pointer none, .int .i64 a]
def cellsTo (NM : Nat → ByteArray) (SZ AT : Nat → Int) : Nat → List Value
  | 0 => []
  | k + 1 => cellsTo NM SZ AT k ++ fldL (NM k) (SZ k) (AT k)
theorem cellsTo_len (NM : Nat → ByteArray) (SZ AT : Nat → Int) (k : Nat) : (cellsTo NM SZ AT k).length = k * 11 := by
  induction k with
  | zero => rfl
  | succ k ih => rw [cellsTo, List.length_append, ih]; simp [fldL]; omega
theorem cellsTo_at (NM : Nat → ByteArray) (SZ AT : Nat → Int) (n : Nat) : ∀ k j, k < n → j < 11 → (cellsTo NM SZ AT n)[k * 11 + j]? = (fldL (NM k) (SZ k) (AT k))[j]? := by
  induction n with
  | zero => intro k j h; omega
  | succ n ih =>
    intro k j hk hj
    rw [cellsTo]
    by_cases h : k < n
    · rw [List.getElem?_append_left (by rw [cellsTo_len]; omega)]; exact ih k j h hj
    · obtain rfl : k = n := by omega
      rw [List.getElem?_append_right (by rw [cellsTo_len]; omega), cellsTo_len]
      congr 1; omega

theorem frow_of_owns {w : World} {base g cap n : Nat} {NM : Nat → ByteArray} {SZ AT : Nat → Int} (h : w.ownsRow base 61 11 (.slice (some ⟨g, 0, none⟩) n cap) n (cellsTo NM SZ AT n)) : FRow w g n NM SZ AT := by
  intro k hk
  have hj : ∀ j, j < 11 → w.cell? ⟨g, k * 11 + j, none⟩ = (fldL (NM k) (SZ k) (AT k))[j]? := fun j hj => by
    rw [h.cellAt (k * 11 + j) (by omega), cellsTo_at _ _ _ _ _ _ hk hj]
  exact ⟨by simpa [fldL] using hj 0 (by omega), by simpa [fldL] using hj 1 (by omega), by simpa [fldL] using hj 2 (by omega), by simpa [fldL] using hj 3 (by omega), by simpa [fldL] using hj 4 (by omega), by simpa [fldL] using hj 5 (by omega), by simpa [fldL] using hj 6 (by omega), by simpa [fldL] using hj 7 (by omega), by simpa [fldL] using hj 8 (by omega), by simpa [fldL] using hj 9 (by omega), by simpa [fldL] using hj 10 (by omega)⟩

theorem ownsRow_below {w w' : World} {base : Nat} {e : TypeId} {size : Nat} {v : Value} {n : Nat} {xs : List Value} (h : w.ownsRow base e size v n xs) (hb : Below w.heap.size w w') : w'.ownsRow base e size v n xs := by
  obtain ⟨h1, h2⟩ := h
  refine ⟨h1, ?_⟩
  rcases h2 with h2 | ⟨g, cap, cur, hv, hg, hh, h3⟩
  · exact .inl h2
  · refine .inr ⟨g, cap, cur, hv, hg, ?_, h3⟩
    have hlt : g < w.heap.size := by
      rcases Nat.lt_or_ge g w.heap.size with h | h
      · exact h
      · rw [Array.getElem?_eq_none h] at hh; cases hh
    rw [hb.block g hlt]; exact hh

theorem fieldOf_row (v : Value) (base k : Nat) (hk : k ≤ 20) (NM : Nat → ByteArray) (SZ AT : Nat → Int) (nm : ByteArray) (w : World) (h : w.ownsRow base 61 11 v k (cellsTo NM SZ AT k))
    (hne : ∀ i, i < k → ((NM i).toList == nm.toList) = false) :
    Calls Try.prog 55 #[v, .string nm] w (TupRes (.tuple #[fld0, .bool false]) w) := by
  rcases Nat.eq_zero_or_pos k with h0 | h0
  · subst h0
    rcases h.2 with ⟨hv, _⟩ | ⟨g, cap, cur, hv, hg, hh, h3⟩
    · rw [hv]; exact fieldOf_nil nm w
    · rw [hv]
      exact fieldOf_none g cap 0 (by omega) NM SZ AT nm w (by
        rcases Nat.lt_or_ge g w.heap.size with h | h
        · exact h
        · rw [Array.getElem?_eq_none h] at hh; cases hh) (fun i hi => by omega) hne
  · obtain ⟨g, cap, hv, hb, hg⟩ := h.form h0
    rw [hv] at h ⊢
    exact fieldOf_none g cap k hk NM SZ AT nm w hg (frow_of_owns h) hne

def endM (SZ : Nat → Int) : Nat → Int
  | 0 => 0
  | k + 1 => upM (endM SZ k) (SZ k) + SZ k
def alM (SZ : Nat → Int) : Nat → Int
  | 0 => 1
  | k + 1 => if alM SZ k < SZ k then SZ k else alM SZ k

/-- What the sizes must keep to, for the numbers to stay small. -/
structure Fits (n : Nat) (NM : Nat → ByteArray) (SZ : Nat → Int) : Prop where
  n1 : 1 ≤ n
  n2 : n ≤ 20
  s : ∀ k, k < n → 1 ≤ SZ k ∧ SZ k ≤ 8
  e : ∀ k, k ≤ n → 0 ≤ endM SZ k ∧ endM SZ k ≤ 1000
  u : ∀ k, k < n → 0 ≤ upM (endM SZ k) (SZ k) ∧ upM (endM SZ k) (SZ k) ≤ 1000
  a : ∀ k, k ≤ n → 1 ≤ alM SZ k ∧ alM SZ k ≤ 8
  d : ∀ k, k < n → ∀ i, i < k → ((NM i).toList == (NM k).toList) = false

def Coffs (SZ : Nat → Int) (k : Nat) : Int := upM (endM SZ k) (SZ k)

theorem infoFld : (Try.prog.info? 61).map (fun i => (i.zero, i.size, i.bytes)) = some (some fld0, 11, 104) := by kernel_rfl

/-- The record that is being laid out lies at block R. -/
structure RecAt (w : World) (R : Nat) (v : Value) (sz al : Int) : Prop where
  c0 : w.cell? ⟨R, 0, none⟩ = some (.string ⟨#[]⟩)
  c1 : w.cell? ⟨R, 1, none⟩ = some v
  c2 : w.cell? ⟨R, 2, none⟩ = some (.int .i64 sz)
  c3 : w.cell? ⟨R, 3, none⟩ = some (.int .i64 al)
  f0 : w.frozen? ⟨R, 0, none⟩ = false
  f1 : w.frozen? ⟨R, 1, none⟩ = false
  f2 : w.frozen? ⟨R, 2, none⟩ = false
  f3 : w.frozen? ⟨R, 3, none⟩ = false
theorem RecAt.below {w w' : World} {R : Nat} {v : Value} {sz al : Int} {lim : Nat} (h : RecAt w R v sz al) (hb : Below lim w w') (hl : R < lim) : RecAt w' R v sz al := by
  obtain ⟨h0, h1, h2, h3, f0, f1, f2, f3⟩ := h
  constructor <;> (first | rw [hb.cell (by exact hl)] | rw [hb.frozen (by exact hl)]) <;> assumption
theorem RecAt.grown {w w' : World} {R : Nat} {v : Value} {sz al : Int} {row : Option Nat} (h : RecAt w R v sz al) (hg : w.grownBy w' row) (hne : some R ≠ row) (hl : R < w.heap.size) : RecAt w' R v sz al := by
  obtain ⟨h0, h1, h2, h3, f0, f1, f2, f3⟩ := h
  constructor <;> (first | rw [hg.cell_far _ hl hne] | rw [hg.frozen_far _ hl hne]) <;> assumption
/-- What a field's own block holds. -/
structure FBlk (w : World) (F : Nat) (nm : ByteArray) (n : Int) : Prop where
  c0 : w.cell? ⟨F, 0, none⟩ = some (.string nm)
  c1 : w.cell? ⟨F, 1, none⟩ = some (.int .i64 1)
  c2 : w.cell? ⟨F, 2, none⟩ = some (.int .i64 n)
  c3 : w.cell? ⟨F, 3, none⟩ = some (.bool true)
  c4 : w.cell? ⟨F, 4, none⟩ = some (.bool false)
  c5 : w.cell? ⟨F, 5, none⟩ = some (.pointer none)
  c6 : w.cell? ⟨F, 6, none⟩ = some (.int .i64 0)
  c7 : w.cell? ⟨F, 7, none⟩ = some (.int .i64 0)
  c8 : w.cell? ⟨F, 8, none⟩ = some (.slice none 0 0)
  c9 : w.cell? ⟨F, 9, none⟩ = some (.pointer none)
theorem FBlk.below {w w' : World} {F : Nat} {nm : ByteArray} {n : Int} {lim : Nat} (h : FBlk w F nm n) (hb : Below lim w w') (hl : F < lim) : FBlk w' F nm n := by
  obtain ⟨h0, h1, h2, h3, h4, h5, h6, h7, h8, h9⟩ := h
  constructor <;> (rw [hb.cell (by exact hl)]) <;> assumption
theorem FBlk.grown {w w' : World} {F : Nat} {nm : ByteArray} {n : Int} {row : Option Nat} (h : FBlk w F nm n) (hg : w.grownBy w' row) (hne : some F ≠ row) (hl : F < w.heap.size) : FBlk w' F nm n := by
  obtain ⟨h0, h1, h2, h3, h4, h5, h6, h7, h8, h9⟩ := h
  constructor <;> (rw [hg.cell_far _ hl hne]) <;> assumption

theorem RecAt.set1 {w : World} {R : Nat} {v v' : Value} {sz al : Int} (h : RecAt w R v sz al) : RecAt (w.setCell ⟨R, 1, none⟩ v') R v' sz al := by
  obtain ⟨h0, h1, h2, h3, f0, f1, f2, f3⟩ := h
  constructor <;> simp [go_sem, h0, h1, h2, h3, f0, f1, f2, f3]
theorem RecAt.set2 {w : World} {R : Nat} {v : Value} {sz al sz' : Int} (h : RecAt w R v sz al) : RecAt (w.setCell ⟨R, 2, none⟩ (.int .i64 sz')) R v sz' al := by
  obtain ⟨h0, h1, h2, h3, f0, f1, f2, f3⟩ := h
  constructor <;> simp [go_sem, h0, h1, h2, h3, f0, f1, f2, f3]
theorem RecAt.set3 {w : World} {R : Nat} {v : Value} {sz al al' : Int} (h : RecAt w R v sz al) : RecAt (w.setCell ⟨R, 3, none⟩ (.int .i64 al')) R v sz al' := by
  obtain ⟨h0, h1, h2, h3, f0, f1, f2, f3⟩ := h
  constructor <;> simp [go_sem, h0, h1, h2, h3, f0, f1, f2, f3]

/-- After a field was appended. -/
def Lay14 (R base B : Nat) (W : World) (k : Nat) (NM : Nat → ByteArray) (SZ : Nat → Int) (E A : Int) (wx : World) : Prop :=
  ∃ gg cap, RecAt wx R (.slice (some ⟨gg, 0, none⟩) (k + 1) cap) E A ∧ wx.ownsRow base 61 11 (.slice (some ⟨gg, 0, none⟩) (k + 1) cap) (k + 1) (cellsTo NM SZ (Coffs SZ) (k + 1)) ∧ Below B W wx

def LayRes (n : Nat) (NM : Nat → ByteArray) (SZ : Nat → Int) (w : World) (e : Ending) (w' : World) : Prop :=
  ∃ g c, e = .returned (.tuple #[.agg #[.string ⟨#[]⟩, .slice (some ⟨g, 0, none⟩) n c, .int .i64 (upM (endM SZ n) (alM SZ n)), .int .i64 (alM SZ n)], .int .i64 0]) ∧ FRow w' g n NM SZ (Coffs SZ) ∧ w.heap.size ≤ g ∧ g < w'.heap.size ∧ Below w.heap.size w w'

set_option maxRecDepth 100000 in
set_option maxHeartbeats 8000000 in
theorem layOut_ints (tab : Value) (fb fc n : Nat) (NM : Nat → ByteArray) (SZ : Nat → Int) (hF : Fits n NM SZ) (w : World) (hfb : fb < w.heap.size) (hr : FRow w fb n NM SZ (fun _ => 0)) :
    Calls Try.prog 38 #[tab, .slice (some ⟨fb, 0, none⟩) n fc] w (LayRes n NM SZ w) := by
  obtain ⟨i0, hi, hz0, hz1, hz2⟩ := info_parts infoFld
  have HFT := Lib.hid hF
  have HR := Lib.hid hr
  have hn1 := hF.n1
  have hn2 := hF.n2
  have I1 := Lib.hid hi
  have I2 := Lib.hid hz0
  have I3 := Lib.hid hz1
  have I4 := Lib.hid hz2
  clear hF hr hi hz0 hz1 hz2
  go_enter Try.func38, Try.ntmps38
  go_wp2_with fail
  generalize hW : (w.alloc (.cells #[.string ⟨#[]⟩, .slice none 0 0, .int .i64 0, .int .i64 0] 110)).alloc (.cells #[.string ⟨#[]⟩, .slice none 0 0, .int .i64 0, .int .i64 1] 110) = W
  have hB0 : Below w.heap.size w W := by rw [← hW]; exact ((Below.refl _ _).alloc (Nat.le_refl _) _).alloc (by simp) _
  have hsW : W.heap.size = w.heap.size + 2 := by rw [← hW]; simp
  have hrc : RecAt W (w.heap.size + 1) (.slice none 0 0) 0 1 := by rw [← hW]; constructor <;> simp
  have hr0 : RecAt W w.heap.size (.slice none 0 0) 0 0 := by rw [← hW]; constructor <;> simp
  have HB0 := Lib.hid hB0
  have HSW := Lib.hid hsW
  have HRC := Lib.hid hrc
  have HR0 := Lib.hid hr0
  clear hB0 hsW hrc hr0 hW
  go_loopw [17] (fun vi wr => ∃ (k : Nat) (v : Value), vi = .int .i64 k ∧ k ≤ n ∧ Below (w.heap.size + 1) W wr ∧ RecAt wr (w.heap.size + 1) v (endM SZ k) (alM SZ k) ∧ wr.ownsRow (w.heap.size + 2) 61 11 v k (cellsTo NM SZ (Coffs SZ) k)) (fun vi _ => n - (intOf vi).toNat)
  case atStart => exact ⟨0, .slice none 0 0, rfl, by omega, Below.refl _ _, HRC.out, World.ownsRow_nil _ _ _ _⟩
  case round =>
    obtain ⟨k, v, rfl, hk, hb, hrec, hown⟩ := hrel
    have HB := Lib.hid hb
    have HREC := Lib.hid hrec
    have HOWN := Lib.hid hown
    have hzr : w.heap.size + 2 ≤ wr.heap.size := by have := hb.size; have := HSW.out; omega
    clear hb hrec hown
    by_cases hlt : k < n
    · obtain ⟨h0, h1, h2, h3, h4, h5, h6, h7, h8, h9, h10⟩ := ((HR.out k hlt).below HB0.out hfb).below (lim := w.heap.size + 1) HB.out (by omega)
      go_upto_region 5 with fail
      generalize hV : wr.alloc (.cells #[.string (NM k), .int .i64 1, .int .i64 (SZ k), .bool true, .bool false, .pointer none, .int .i64 0, .int .i64 0, .slice none 0 0, .pointer none, .int .i64 0] 61) = V
      have hBV : Below wr.heap.size wr V := by rw [← hV]; exact (Below.refl _ _).alloc (Nat.le_refl _) _
      have hsV : V.heap.size = wr.heap.size + 1 := by rw [← hV]; simp
      have hfv : FBlk V wr.heap.size (NM k) (SZ k) := by rw [← hV]; constructor <;> simp
      obtain ⟨F, hFd⟩ : ∃ F, F = wr.heap.size := ⟨_, rfl⟩
      rw [← hFd] at hfv
      have HFV := Lib.hid hfv
      have HBV := Lib.hid hBV
      have HSV := Lib.hid hsV
      have HFD := Lib.hid hFd
      clear h0 h1 h2 h3 h4 h5 h6 h7 h8 h9 h10 hV hBV hsV
      rw [← hFd]
      clear hFd hzr
      obtain ⟨v0, v1, v2, v3, v4, v5, v6, v7, v8, v9⟩ := hfv
      go_region_held3 (fun w' => w'.cell? ⟨F, 1, none⟩ = some (.int .i64 1) ∧ w'.cell? ⟨F, 2, none⟩ = some (.int .i64 (SZ k)) ∧ w'.cell? ⟨F, 3, none⟩ = some (.bool true) ∧ w'.cell? ⟨F, 4, none⟩ = some (.bool false) ∧ w'.cell? ⟨F, 5, none⟩ = some (.pointer none) ∧ w'.cell? ⟨F, 6, none⟩ = some (.int .i64 0) ∧ w'.cell? ⟨F, 7, none⟩ = some (.int .i64 0) ∧ w'.cell? ⟨F, 8, none⟩ = some (.slice none 0 0) ∧ w'.cell? ⟨F, 9, none⟩ = some (.pointer none)) (go_keep)
        (first
          | (go_at_call 16
             refine (size_int _ (SZ k) true false _).mono ?_
             rintro e w1 ⟨rfl, hb1⟩
             have HB1 : Hid (Below V.heap.size V w1) := Lib.hid ((Below.refl _ _).drew.trans hb1)
             obtain ⟨v10, v11, v12, v13, v14, v15, v16, v17, v18, v19⟩ := HFV.out.below HB1.out (by have := HSV.out; have := HFD.out; omega)
             clear hb1)
          | (go_at_call 53
             refine (align_int _ (SZ k) true false _).mono ?_
             rintro e w2 ⟨rfl, hb2⟩
             have HB2 : Hid (Below V.heap.size V w2) := Lib.hid (HB1.out.trans (hb2.mono HB1.out.size))
             obtain ⟨v20, v21, v22, v23, v24, v25, v26, v27, v28, v29⟩ := HFV.out.below HB2.out (by have := HSV.out; have := HFD.out; omega)
             clear hb2))
      obtain ⟨E, hE⟩ : ∃ E, E = endM SZ k := ⟨_, rfl⟩
      obtain ⟨A, hA⟩ : ∃ A, A = alM SZ k := ⟨_, rfl⟩
      obtain ⟨U, hU⟩ : ∃ U, U = upM (endM SZ k) (SZ k) := ⟨_, rfl⟩
      have hE1 := (HFT.out.e k (by omega)).1
      have hE2 := (HFT.out.e k (by omega)).2
      have hU1 := (HFT.out.u k hlt).1
      have hU2 := (HFT.out.u k hlt).2
      have hA1 := (HFT.out.a k (by omega)).1
      have hA2 := (HFT.out.a k (by omega)).2
      have hS1 := (HFT.out.s k hlt).1
      have hS2 := (HFT.out.s k hlt).2
      rw [← hE] at hE1 hE2
      rw [← hA] at hA1 hA2
      rw [← hU] at hU1 hU2
      have hS0 : (SZ k == 0) = false := by simpa using (by omega : SZ k ≠ 0)
      have hrecV := (HREC.out.below HBV.out (by have := HSV.out; have := HB.out.size; have := HSW.out; omega)).below HB2.out (by have := HSV.out; have := HB.out.size; have := HSW.out; omega)
      have hown2 := ownsRow_below (ownsRow_below HOWN.out HBV.out) HB2.out
      rw [← hE, ← hA] at hrecV
      have HREC2 := Lib.hid hrecV
      have HOWN2 := Lib.hid hown2
      have HE := Lib.hid hE
      have HA := Lib.hid hA
      have HU := Lib.hid (hE ▸ hU : U = upM E (SZ k))
      have HU0 := Lib.hid hU
      have HF2 := Lib.hid (HFV.out.below HB2.out (by have := HSV.out; have := HFD.out; omega))
      obtain ⟨r0, r1, r2, r3, q0, q1, q2, q3⟩ := hrecV
      clear hE hA hU hown2 v0 v1 v2 v3 v4 v5 v6 v7 v8 v9 v10 v11 v12 v13 v14 v15 v16 v17 v18 v19
      go_wp2_with (first
        | (go_at_call 54
           refine (up_any E (SZ k) _ hE1 (by omega) hS1 (by omega)).mono ?_
           rintro e w' ⟨rfl, rfl⟩
           rw [← HU.out])
        | (go_at_call 55
           refine (fieldOf_row v (w.heap.size + 2) k (by omega) NM SZ (Coffs SZ) (NM k) _ HOWN2.out (HFT.out.d k hlt)).mono ?_
           rintro e w3 ⟨rfl, hb3⟩
           have HB23 : Hid (Below w2.heap.size w2 w3) := Lib.hid hb3
           clear hb3
           unfold fld0))
      generalize hZ : w3.alloc (.cells #[.string ⟨#[]⟩, .int .i64 0, .int .i64 0, .bool false, .bool false, .pointer none, .int .i64 0, .int .i64 0, .slice none 0 0, .pointer none, .int .i64 0] 61) = Z
      have hB3 : Below w2.heap.size w2 Z := by rw [← hZ]; exact HB23.out.alloc HB23.out.size _
      have HB3 := Lib.hid hB3
      have hB4 : Below V.heap.size V Z := HB2.out.trans (hB3.mono HB2.out.size)
      have HBZ := Lib.hid hB4
      have hlF : F < w2.heap.size := by have := HB2.out.size; have := HSV.out; have := HFD.out; omega
      have hlR : w.heap.size + 1 < F := by have := HFD.out; have := HB.out.size; have := HSW.out; omega
      have hfZ := HF2.out.below hB3 hlF
      have hrZ := HREC2.out.below hB3 (by omega)
      have HFZ := Lib.hid hfZ
      have HRZ := Lib.hid hrZ
      have HOWNZ := Lib.hid (ownsRow_below HOWN2.out hB3)
      have HNF := Lib.hid (show some F ≠ v.ownBlock by intro h; have := (HOWN.out.lt F h.symm).2; have := HFD.out; omega)
      have HNR := Lib.hid (show some (w.heap.size + 1) ≠ v.ownBlock by intro h; have := (HOWN.out.lt _ h.symm).1; omega)
      have HLZ := Lib.hid (show F < Z.heap.size by have := hB3.size; omega)
      have HLR := Lib.hid hlR
      have zr1 := hrZ.c1
      obtain ⟨z0, z1, z2, z3, z4, z5, z6, z7, z8, z9⟩ := hfZ
      clear hZ hB3 hB4 hlF hlR hrZ r0 r1 r2 r3 q0 q1 q2 q3 v20 v21 v22 v23 v24 v25 v26 v27 v28 v29
      go_cut [11] (fun s11 wx => s11 = .int .i64 U ∧ Lay14 (w.heap.size + 1) (w.heap.size + 2) (w.heap.size + 1) W k NM SZ E A wx)
      case first =>
        go_region_law
          (first
            | (go_simp
               go_at_call 42
               refine (fresh_leaf (.int (SZ k) true false) _).mono ?_
               rintro e w4 ⟨rfl, hb4⟩
               have HB4 : Hid (Below Z.heap.size Z w4) := Lib.hid ((Below.refl _ _).drew.trans hb4)
               have HF4 := Lib.hid (HFZ.out.below HB4.out HLZ.out)
               have HR4 := Lib.hid (HRZ.out.below HB4.out (by have := HLZ.out; have := HLR.out; omega))
               have HOWN4 := Lib.hid (ownsRow_below HOWNZ.out HB4.out)
               have zr14 := HR4.out.c1
               have hR4l : w.heap.size + 1 < w4.heap.size := by have := HLZ.out; have := HLR.out; have := HB4.out.size; omega
               have hR4n : w.heap.size + 1 ≠ w4.heap.size := by omega
               have hF4l : F < w4.heap.size := by have := HLZ.out; have := HB4.out.size; omega
               have hF4n : F ≠ w4.heap.size := by omega
               obtain ⟨z40, z41, z42, z43, z44, z45, z46, z47, z48, z49⟩ := HF4.out
               rw [tyV_int]
               clear hb4)
            | ((refine step_append_lies _ (by rfl) _ _ _ (by rfl) (w.heap.size + 2) 61 i0 fld0 11 104 Try.underlying53 I1.out I2.out I3.out I4.out rfl (by omega) v k (cellsTo NM SZ (Coffs SZ) k) (by rfl) (HOWN4.out.alloc _)
                      ⟨w4.heap.size, 0, none⟩ 1 1 [.string (NM k), .int .i64 1, .int .i64 (SZ k), .bool true, .bool false, .pointer none, .int .i64 0, .int .i64 0, .slice none 0 0, .pointer none, .int .i64 U] (by rfl) (by rfl) (World.news_of_block (cs := #[.string (NM k), .int .i64 1, .int .i64 (SZ k), .bool true, .bool false, .pointer none, .int .i64 0, .int .i64 0, .slice none 0 0, .pointer none, .int .i64 U]) (t := 61) (fr := (0, 0)) (heap_alloc_new w4 _)) (by simp [Value.oneCell'])
                      (by omega) (by unfold maxLen; omega) (by omega) (by have := HLZ.out; have := HLR.out; have := HB4.out.size; simp; omega) (w4.heap.size + 1) (by simp) ?_)
               intro gg cap w5 hown5 hgrow hat hlt5
               have HAL : Hid (Below w4.heap.size w4 (w4.alloc (.cells #[.string (NM k), .int .i64 1, .int .i64 (SZ k), .bool true, .bool false, .pointer none, .int .i64 0, .int .i64 0, .slice none 0 0, .pointer none, .int .i64 U] 61))) := Lib.hid ((Below.refl _ _).alloc (Nat.le_refl _) _)
               have HL4 : Hid (F < w4.heap.size) := Lib.hid (by have := HLZ.out; have := HB4.out.size; omega)
               have HF5 := Lib.hid ((HF4.out.below HAL.out HL4.out).grown hgrow HNF.out (by have := HL4.out; simp; omega))
               have HR5 := Lib.hid ((HR4.out.below HAL.out (by have := HL4.out; have := HLR.out; omega)).grown hgrow HNR.out (by have := HL4.out; have := HLR.out; simp; omega))
               have HG := Lib.hid hgrow
               have HOWN5 := Lib.hid hown5
               have zr15 := HR5.out.c1
               have zf15 := HR5.out.f1
               have HNE : F ≠ w.heap.size + 1 := (by have := HLR.out; omega)
               have HNE2 : w.heap.size + 1 ≠ F := (by have := HLR.out; omega)
               obtain ⟨z50, z51, z52, z53, z54, z55, z56, z57, z58, z59⟩ := HF5.out
               clear hown5 hgrow hat))
        all_goals
          go_wp2_with fail
          go_meet
          refine ⟨rfl, gg, cap, HR5.out.set1, ownsRow_setCell_below ?_ (by simp) _, ?_⟩
          · have := HOWN5.out
            rw [cellsTo]
            have hu : Coffs SZ k = U := HU0.out.symm
            rw [hu]
            exact this
          · have b1 : Below (w.heap.size + 1) W w4 := ((HB.out.trans (HBV.out.mono (by have := HFD.out; have := HLR.out; omega))).trans (HBZ.out.mono (by have := HSV.out; have := HFD.out; have := HLR.out; omega))).trans (HB4.out.mono (by have := HLZ.out; have := HLR.out; omega))
            have hrow : ∀ g, v.ownBlock = some g → w.heap.size + 1 ≤ g := fun g h => by have := (HOWN.out.lt g h).1; omega
            exact ((b1.alloc (by have := HL4.out; have := HLR.out; omega) _).grown HG.out (by have := HL4.out; have := HLR.out; simp; omega) hrow).setCell (by simp) _
      case rest =>
        obtain ⟨rfl, gg, cap, hrec, hown, hbw⟩ := hcut
        obtain ⟨r0, r1, r2, r3, q0, q1, q2, q3⟩ := hrec
        have hrl : w.heap.size + 1 < wc.heap.size := by have := hbw.size; have := HSW.out; omega
        have HRW := Lib.hid (show RecAt wc (w.heap.size + 1) (.slice (some ⟨gg, 0, none⟩) (k + 1) cap) E A from ⟨r0, r1, r2, r3, q0, q1, q2, q3⟩)
        have HOW := Lib.hid hown
        have HBW := Lib.hid hbw
        have hEn : endM SZ (k + 1) = U + SZ k := by rw [HU0.out]; rfl
        have hAn : alM SZ (k + 1) = if A < SZ k then SZ k else A := by rw [HA.out]; rfl
        have HEN := Lib.hid hEn
        have HAN := Lib.hid hAn
        clear hown hbw hEn hAn
        go_wp2_with fail
        all_goals
          go_roundw
          case rel =>
            refine ⟨k + 1, .slice (some ⟨gg, 0, none⟩) (k + 1) cap, by go_num, by omega, (HBW.out.setCell (by simp) _).setCell (by simp) _, ?_, ownsRow_setCell_below (ownsRow_setCell_below HOW.out (by simp) _) (by simp) _⟩
            rw [HEN.out, HAN.out]
            have := (HRW.out.set2 (sz' := U + SZ k)).set3 (al' := if A < SZ k then SZ k else A)
            first | exact this | (simpa using this)
          case measure => simp [intOf]; omega
    · obtain rfl : k = n := by omega
      have hzR := HSW.out
      obtain ⟨gg, cap, hv, hg1, hg2⟩ := HOWN.out.form (by omega)
      subst hv
      obtain ⟨r0, r1, r2, r3, q0, q1, q2, q3⟩ := HREC.out
      obtain ⟨t0, t1, t2, t3, p0, p1, p2, p3⟩ := HR0.out.below (lim := w.heap.size + 1) HB.out (by omega)
      have hA1 := (HFT.out.a k (by omega)).1
      have hA2 := (HFT.out.a k (by omega)).2
      have hE1 := (HFT.out.e k (by omega)).1
      have hE2 := (HFT.out.e k (by omega)).2
      have hrl : w.heap.size < wr.heap.size := by omega
      have hrl1 : w.heap.size + 1 < wr.heap.size := by omega
      have hk0 : ((k : Int) == 0) = false := by simpa using (by omega : k ≠ 0)
      have hBB := HB0.out.trans (HB.out.mono (by omega))
      have HBB := Lib.hid hBB
      have HG1 := Lib.hid hg1
      have HG2 := Lib.hid hg2
      clear hg1 hg2 hBB hzR
      go_wp2_with (go_at_call 54; refine (up_any (endM SZ k) (alM SZ k) _ hE1 (by omega) hA1 (by omega)).mono ?_; rintro e w' ⟨rfl, rfl⟩)
      have hbw := HBB.out
      have hg1 := HG1.out
      have hg2 := HG2.out
      refine bodyPost_ret (v := .tuple #[.agg #[.string ⟨#[]⟩, .slice (some ⟨gg, 0, none⟩) k cap, .int .i64 (upM (endM SZ k) (alM SZ k)), .int .i64 (alM SZ k)], .int .i64 0]) ?_ rfl ⟨gg, cap, rfl, ?_, by omega, by simp; omega, ?_⟩
      · simp [results, Try.results38, go_sem, t0, t1, t2, t3]
      · have h1 : ∀ {w2 : World} {p : Addr} {u : Value}, w2.ownsRow (w.heap.size + 2) 61 11 (.slice (some ⟨gg, 0, none⟩) k cap) k (cellsTo NM SZ (Coffs SZ) k) → p.block < w.heap.size + 2 → (w2.setCell p u).ownsRow (w.heap.size + 2) 61 11 (.slice (some ⟨gg, 0, none⟩) k cap) k (cellsTo NM SZ (Coffs SZ) k) := fun h hp => ownsRow_setCell_below h hp _
        refine frow_of_owns (base := w.heap.size + 2) (cap := cap) ?_
        have h0 := HOWN.out
        ((repeat (first | (with_reducible exact h0) | (with_reducible apply h1))) <;> first | omega | (simp <;> omega))
      · ((repeat (first | (with_reducible exact hbw) | (with_reducible apply Below.setCell) | (with_reducible apply Below.alloc))) <;> first | omega | (simp <;> omega))

open Go Go.RowKit

theorem infoRec : (Try.prog.info? 110).map (fun i => (i.zero, i.size, i.bytes)) = some (some (.agg #[.string ⟨#[]⟩, .slice none 0 0, .int .i64 0, .int .i64 0]), 4, 56) := by kernel_rfl

def AddRes (tb : Nat) (nm : ByteArray) (n : Nat) (NM : Nat → ByteArray) (SZ : Nat → Int) (w : World) (e : Ending) (w' : World) : Prop :=
  ∃ rb rc g fc, e = .returned (.tuple #[.int .i64 0, .int .i64 0]) ∧ TabOne w' tb rb rc nm (some ⟨g, 0, none⟩) n fc (upM (endM SZ n) (alM SZ n)) (alM SZ n) ∧ FRow w' g n NM SZ (Coffs SZ) ∧ g < w'.heap.size ∧ w.heap.size ≤ w'.heap.size ∧ Below tb w w'

/-- After the record was appended. -/
def NewRec (tb : Nat) (Y : World) (g : Nat) (nm : ByteArray) (n fc : Nat) (sz al : Int) (wx : World) : Prop :=
  ∃ rb rc, TabOne wx tb rb rc nm (some ⟨g, 0, none⟩) n fc sz al ∧ Y.heap.size ≤ wx.heap.size ∧ Below tb Y wx ∧ ∀ b, b < Y.heap.size → b ≠ tb → ∀ o, wx.cell? ⟨b, o, none⟩ = Y.cell? ⟨b, o, none⟩

set_option maxRecDepth 100000 in
set_option maxHeartbeats 4000000 in
theorem add_ints (tb fb fc n : Nat) (nm : ByteArray) (NM : Nat → ByteArray) (SZ : Nat → Int) (hF : Fits n NM SZ) (w : World) (htb : tb < w.heap.size) (hct : w.cell? ⟨tb, 0, none⟩ = some (.slice none 0 0)) (hft : w.frozen? ⟨tb, 0, none⟩ = false)
    (hfb : fb < w.heap.size) (hr : FRow w fb n NM SZ (fun _ => 0)) :
    Calls Try.prog 15 #[.pointer (some ⟨tb, 0, none⟩), .string nm, .slice (some ⟨fb, 0, none⟩) n fc] w (AddRes tb nm n NM SZ w) := by
  obtain ⟨i0, hi, hz0, hz1, hz2⟩ := info_parts infoRec
  have hn2 := hF.n2
  have C1 := Lib.hid (layOut_ints (.pointer (some ⟨tb, 0, none⟩)) fb fc n NM SZ hF w hfb hr)
  have I1 := Lib.hid hi
  have I2 := Lib.hid hz0
  have I3 := Lib.hid hz1
  have I4 := Lib.hid hz2
  have hd : decide (20 < n) = false := by simp; omega
  clear hF hr hi hz0 hz1 hz2
  go_enter Try.func15, Try.ntmps15
  go_wp2_with (first
    | (go_at_call 37; refine (find_empty tb nm _ hct).mono ?_; rintro e w' ⟨rfl, rfl⟩)
    | (go_at_call 38
       refine C1.out.mono ?_
       rintro e w1 ⟨g, c, rfl, hrow, hg1, hg2, hb⟩
       have HROW := Lib.hid hrow
       have HG1 := Lib.hid hg1
       have HG2 := Lib.hid hg2
       have HB := Lib.hid hb
       have ht1 : w1.cell? ⟨tb, 0, none⟩ = some (.slice none 0 0) := by rw [hb.cell (by exact htb)]; exact hct
       have hf1 : w1.frozen? ⟨tb, 0, none⟩ = false := by rw [hb.frozen (by exact htb)]; exact hft
       have hl1 : tb < w1.heap.size := by have := hb.size; omega
       clear hrow hg1 hg2 hb))
  generalize hY : w1.alloc (.cells #[.string nm, .slice (some ⟨g, 0, none⟩) n c, .int .i64 (upM (endM SZ n) (alM SZ n)), .int .i64 (alM SZ n)] 110) = Y
  have hBY : Below w1.heap.size w1 Y := by rw [← hY]; exact (Below.refl _ _).alloc (Nat.le_refl _) _
  have hsY : Y.heap.size = w1.heap.size + 1 := by rw [← hY]; simp
  have y0 : Y.cell? ⟨w1.heap.size, 0, none⟩ = some (.string nm) := by rw [← hY]; simp
  have y1 : Y.cell? ⟨w1.heap.size, 1, none⟩ = some (.slice (some ⟨g, 0, none⟩) n c) := by rw [← hY]; simp
  have y2 : Y.cell? ⟨w1.heap.size, 2, none⟩ = some (.int .i64 (upM (endM SZ n) (alM SZ n))) := by rw [← hY]; simp
  have y3 : Y.cell? ⟨w1.heap.size, 3, none⟩ = some (.int .i64 (alM SZ n)) := by rw [← hY]; simp
  have yt : Y.cell? ⟨tb, 0, none⟩ = some (.slice none 0 0) := by rw [hBY.cell (by exact hl1)]; exact ht1
  have yf : Y.frozen? ⟨tb, 0, none⟩ = false := by rw [hBY.frozen (by exact hl1)]; exact hf1
  have ytl : tb < Y.heap.size := by omega
  have ytn : tb ≠ Y.heap.size := by omega
  have yxl : w1.heap.size < Y.heap.size := by omega
  have yxn : w1.heap.size ≠ Y.heap.size := by omega
  have HBY := Lib.hid hBY
  have HSY := Lib.hid hsY
  have HL1 := Lib.hid hl1
  clear hY hBY hsY ht1 hf1 hl1
  go_cut [10] (fun s10 wx => s10 = .pointer (some ⟨w1.heap.size, 0, none⟩) ∧ NewRec tb Y g nm n c (upM (endM SZ n) (alM SZ n)) (alM SZ n) wx)
  case first =>
    go_region_law
      (first
        | ((refine step_append_lies _ (by rfl) _ _ _ (by rfl) Y.heap.size 110 i0 (.agg #[.string ⟨#[]⟩, .slice none 0 0, .int .i64 0, .int .i64 0]) 4 56 Try.underlying46 I1.out I2.out I3.out I4.out rfl (by omega) (.slice none 0 0) 0 [] (by rfl) (World.ownsRow_nil _ _ _ _)
                  ⟨Y.heap.size, 0, none⟩ 1 1 [.string nm, .slice (some ⟨g, 0, none⟩) n c, .int .i64 (upM (endM SZ n) (alM SZ n)), .int .i64 (alM SZ n)] (by rfl) (by rfl) (World.news_of_block (cs := #[.string nm, .slice (some ⟨g, 0, none⟩) n c, .int .i64 (upM (endM SZ n) (alM SZ n)), .int .i64 (alM SZ n)]) (t := 110) (fr := (0, 0)) (heap_alloc_new Y _)) (by simp [Value.oneCell'])
                  (by omega) (by unfold maxLen; omega) (by omega) (by simp) (Y.heap.size + 1) (by simp) ?_)
           intro gg cap w2 hown2 hgrow hat hlt2
           have HG := Lib.hid hgrow
           have HOWN2 := Lib.hid hown2
           have HAT := Lib.hid hat
           have ht2 : w2.cell? ⟨tb, 0, none⟩ = some (.slice none 0 0) := by rw [hgrow.cell_far _ (by simp; omega) (by simp [Value.ownBlock])]; exact (((Below.refl Y.heap.size Y).alloc (Nat.le_refl _) _).drew.cell (p := ⟨tb, 0, none⟩) ytl).trans yt
           have hf2 : w2.frozen? ⟨tb, 0, none⟩ = false := by rw [hgrow.frozen_far _ (by simp; omega) (by simp [Value.ownBlock])]; exact (((Below.refl Y.heap.size Y).alloc (Nat.le_refl _) _).drew.frozen (p := ⟨tb, 0, none⟩) ytl).trans yf
           clear hown2 hgrow hat))
    all_goals
      go_wp2_with fail
      go_meet
      have hgg : gg = Y.heap.size + 1 := by have := HAT.out; simpa [Value.ownBlock] using this
      have hgrow := HG.out
      have hcs : ∀ b, b < Y.heap.size → ∀ o, w2.cell? ⟨b, o, none⟩ = Y.cell? ⟨b, o, none⟩ := fun b hb o => by
        rw [hgrow.cell_far _ (by simp; omega) (by simp [Value.ownBlock])]
        exact ((Below.refl Y.heap.size Y).alloc (Nat.le_refl _) _).drew.cell (p := ⟨b, o, none⟩) hb
      have hcg : ∀ j, j < 4 → w2.cell? ⟨gg, j, none⟩ = [Value.string nm, .slice (some ⟨g, 0, none⟩) n c, .int .i64 (upM (endM SZ n) (alM SZ n)), .int .i64 (alM SZ n)][j]? := fun j hj => by
        rw [HOWN2.out.cellAt j (by omega)]; simp
      have htg : gg ≠ tb := by omega
      have hset : ∀ b, b ≠ tb → ∀ o u, (w2.setCell ⟨tb, 0, none⟩ u).cell? ⟨b, o, none⟩ = w2.cell? ⟨b, o, none⟩ := fun b hb o u => World.cell?_of_block (Below.heap_setCell w2 _ u b hb)
      refine ⟨rfl, gg, cap, ⟨?_, ?_, ?_, ?_, ?_⟩, ?_, ?_, ?_⟩
      · simp [go_sem, ht2]
      · rw [hset _ htg, hcg 0 (by omega)]; rfl
      · rw [hset _ htg, hcg 1 (by omega)]; rfl
      · rw [hset _ htg, hcg 2 (by omega)]; rfl
      · rw [hset _ htg, hcg 3 (by omega)]; rfl
      · have := hgrow.size; simp at this; simp; omega
      · have b0 : Below tb Y (Y.alloc (.cells #[.string nm, .slice (some ⟨g, 0, none⟩) n c, .int .i64 (upM (endM SZ n) (alM SZ n)), .int .i64 (alM SZ n)] 110)).drew := ((Below.refl tb Y).alloc (by omega) _).drew
        exact (b0.grown hgrow (by simp; omega) (fun k h => by simp [Value.ownBlock] at h)).setCell (by simp) _
      · intro b hb hbt o
        rw [hset _ hbt, hcs b hb]
  case rest =>
    obtain ⟨rfl, rb, rc, htab, hsz, hbt, hfr⟩ := hcut
    have HT := Lib.hid htab
    have hc0 := htab.t
    have HSZ := Lib.hid hsz
    have HBT := Lib.hid hbt
    have HFR := Lib.hid hfr
    clear htab hsz hbt hfr y0 y1 y2 y3 yt yf
    go_wp2
    go_ret2
    have hs1 := HSZ.out
    have hs2 := HSY.out
    have hg1 := HG1.out
    have hg2 := HG2.out
    have hw1 := HB.out.size
    refine ⟨rb, rc, g, c, rfl, HT.out, ?_, by omega, by omega, ?_⟩
    · have h1 : FRow Y g n NM SZ (Coffs SZ) := HROW.out.below HBY.out (by omega)
      intro k hk
      obtain ⟨q0, q1, q2, q3, q4, q5, q6, q7, q8, q9, q10⟩ := h1 k hk
      constructor <;> (rw [HFR.out g (by omega) (by omega)]; assumption)
    · exact ((HB.out.mono (by omega)).trans (HBY.out.mono (by omega))).trans HBT.out

open Go Go.RowKit

open Go Go.RowKit

def fitN : Nat → ByteArray
  | 0 => ⟨#[97]⟩
  | 1 => ⟨#[98]⟩
  | _ => ⟨#[99]⟩
def fitS : Nat → Int
  | 0 => 1
  | 1 => 8
  | _ => 2
theorem fit_fits : Fits 3 fitN fitS := by
  have lt3 : ∀ k, k < 3 → k = 0 ∨ k = 1 ∨ k = 2 := fun k h => by omega
  have le3 : ∀ k, k ≤ 3 → k = 0 ∨ k = 1 ∨ k = 2 ∨ k = 3 := fun k h => by omega
  refine ⟨by decide, by decide, ?_, ?_, ?_, ?_, ?_⟩
  · intro k hk; rcases lt3 k hk with rfl | rfl | rfl <;> decide
  · intro k hk; rcases le3 k hk with rfl | rfl | rfl | rfl <;> decide
  · intro k hk; rcases lt3 k hk with rfl | rfl | rfl <;> decide
  · intro k hk; rcases le3 k hk with rfl | rfl | rfl | rfl <;> decide
  · intro k hk i hi
    rcases lt3 k hk with rfl | rfl | rfl
    · omega
    · obtain rfl : i = 0 := by omega
      rw [Lib.toList_data, Lib.toList_data]; rfl
    · rcases (show i = 0 ∨ i = 1 by omega) with rfl | rfl <;> (rw [Lib.toList_data, Lib.toList_data]; rfl)

def fitCells : Array Value := #[.string ⟨#[97]⟩, .int .i64 1, .int .i64 1, .bool true, .bool false, .pointer none, .int .i64 0, .int .i64 0, .slice none 0 0, .pointer none, .int .i64 0,
  .string ⟨#[98]⟩, .int .i64 1, .int .i64 8, .bool true, .bool false, .pointer none, .int .i64 0, .int .i64 0, .slice none 0 0, .pointer none, .int .i64 0,
  .string ⟨#[99]⟩, .int .i64 1, .int .i64 2, .bool true, .bool false, .pointer none, .int .i64 0, .int .i64 0, .slice none 0 0, .pointer none, .int .i64 0]
theorem fit_row (w : World) : FRow (w.alloc (.cells fitCells 61)) w.heap.size 3 fitN fitS (fun _ => 0) := by
  intro k hk
  rcases (show k = 0 ∨ k = 1 ∨ k = 2 by omega) with rfl | rfl | rfl <;> constructor <;> simp [fitCells, fitN, fitS]
end Go.Proofs.Ytdkhanjfncbfnaa
