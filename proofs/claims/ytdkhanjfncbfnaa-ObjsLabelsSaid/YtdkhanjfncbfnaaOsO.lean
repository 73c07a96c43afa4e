import Derived.Test.YtdkhanjfncbfnaaOsN
namespace Go.Proofs.Ytdkhanjfncbfnaa
open Go Go.RowKit
set_option linter.unusedVariables false
set_option linter.unusedSimpArgs false

section
variable {w w' : World} {mb pb : Nat} {es : Array MapEntry} {clk : Nat} {o : Int} {s c N : Nat} {L : Nat → Bool} {C : Nat → Cl}
theorem Ob.add_in (h : Ob w mb pb es clk o s c N L C) (q : Nat) (x : Int) (hq : q ≤ N) (h0 : 0 ≤ (q : Int) + x) (h1 : (q : Int) + x ≤ N) :
    Calls Try.prog 27 #[.pointer (some ⟨mb, 0, none⟩), ptrV 1 o q, .int .i64 x] w fun e w' => e = .returned (.tuple #[ptrV 1 o (q + x), .bool true]) ∧ Below w.heap.size w w' := by
  have := h.hN
  exact Go.Proofs.Ytdkhanjfncbfnaa.add_in mb 1 o q s _ c _ (N - q) x (by omega) (by omega) (by omega) (by omega) (by omega) w (h.behind q hq)
theorem Ob.add_out (h : Ob w mb pb es clk o s c N L C) (q : Nat) (x : Int) (hq : q ≤ N) (h0 : ¬ (0 ≤ (q : Int) + x ∧ (q : Int) + x ≤ N)) :
    Calls Try.prog 27 #[.pointer (some ⟨mb, 0, none⟩), ptrV 1 o q, .int .i64 x] w fun e w' => e = .returned (.tuple #[ptrV 0 0 0, .bool false]) ∧ Below w.heap.size w w' := by
  have := h.hN
  by_cases h1 : x < -(q : Int)
  · exact add_low mb 1 o q s _ c _ (N - q) x h1 (by omega) (by omega) (by omega) w (h.behind q hq)
  · exact add_high mb 1 o q s _ c _ (N - q) x h1 (by omega) (by omega) (by omega) (by omega) w (h.behind q hq)
theorem add_kind (mb : Nat) (k o f x : Int) (hk : k ≠ 1) (w : World) :
    Calls Try.prog 27 #[.pointer (some ⟨mb, 0, none⟩), ptrV k o f, .int .i64 x] w fun e w' => e = .returned (.tuple #[ptrV 0 0 0, .bool false]) ∧ Below w.heap.size w w' :=
  add_no mb k o f x w (fun w' hb => behind_kind mb k o f hk w')
end
/-- A list of numbers that came in. -/
def RowI (w : World) (a : Option Addr) (len : Nat) (xs : Nat → Int) : Prop := len = 0 ∨ ∃ b off : Nat, a = some ⟨b, off, none⟩ ∧ b < w.heap.size ∧ ∀ i, i < len → w.cell? ⟨b, off + i, none⟩ = some (.int .i64 (xs i)) ∧ -9223372036854775808 ≤ xs i ∧ xs i ≤ 9223372036854775807

set_option maxRecDepth 100000 in
set_option maxHeartbeats 16000000 in
theorem moves_any (z : Int) (a : Option Addr) (len cap : Nat) (hlen : len ≤ 9223372036854775807) (xs : Nat → Int) (w : World) (hr : RowI w a len xs) :
    Calls Try.prog 7 #[.int .i64 z, .slice a len cap] w (BoolRes true w) := by
  have HR := Lib.hid hr
  clear hr
  go_enter Try.func7, Try.ntmps7
  go_wp2_with fail
  refine (fit_any _).mono ?_
  rintro e w1 ⟨rfl, hb1⟩
  have HB1 := Lib.hid hb1
  clear hb1
  go_upto_region 4 with fail
  obtain ⟨N, hN, hN99⟩ : ∃ N : Nat, (wrap64 (z.tmod 100 + 100)).tmod 100 = N ∧ N ≤ 99 := by
    have h1 := Int.lt_tmod_of_pos z (show (0 : Int) < 100 by omega)
    have h2 := Int.tmod_lt_of_pos z (show (0 : Int) < 100 by omega)
    have h3 : wrap64 (z.tmod 100 + 100) = z.tmod 100 + 100 := by unfold wrap64; omega
    rw [h3, Int.tmod_eq_emod_of_nonneg (by omega)]
    exact ⟨((z.tmod 100 + 100) % 100).toNat, by omega, by omega⟩
  rw [hN]
  clear hN
  by_cases h100 : 100 < len
  · go_wp2_with fail
    go_ret
    exact ⟨rfl, HB1.out⟩
  have hm1 := fun w => make_bools N (by omega) w
  go_wp2_with (go_at_call 10; (with_reducible refine (new_any _).mono ?_); rintro e w' ⟨rfl, rfl⟩)
  generalize hW1 : (w1.alloc (.cells #[.int .i64 0, .map none] 91)).alloc (.cells (madeCells #[.bool false] N) 4) = W1
  have hb1 : Below w1.heap.size w1 W1 := by rw [← hW1]; exact ((Below.refl _ _).alloc (Nat.le_refl _) _).alloc (by simp) _
  have hs1 : W1.heap.size = w1.heap.size + 2 := by rw [← hW1]; simp
  have c0 : W1.cell? ⟨w1.heap.size, 0, none⟩ = some (.int .i64 0) := by rw [← hW1]; simp
  have c1 : W1.cell? ⟨w1.heap.size, 1, none⟩ = some (.map none) := by rw [← hW1]; simp
  have f0 : W1.frozen? ⟨w1.heap.size, 0, none⟩ = false := by rw [← hW1]; simp
  have f1 : W1.frozen? ⟨w1.heap.size, 1, none⟩ = false := by rw [← hW1]; simp
  have hl : Labs W1 (w1.heap.size + 1) 0 N (fun _ => false) := by
    have := labs_new _ W1 N hW1.symm
    simpa using this
  clear hW1 hm1
  (with_reducible refine (make_first w1.heap.size N (by omega) (w1.heap.size + 1) 0 N (fun _ => false) W1 c0 c1 f0 f1 hl (by omega) (by omega)).mono ?_)
  rintro e w2 ⟨rfl, pb, s, c, hmade⟩
  have hob := hmade.ob (by omega) (by omega)
  have hz2 := hmade.size
  have hb2 : Below w.heap.size w w2 := (HB1.out.trans (hb1.mono HB1.out.size)).trans (hmade.below HB1.out.size (by omega))
  obtain ⟨mb, hmb⟩ : ∃ mb, mb = w1.heap.size := ⟨_, rfl⟩
  rw [← hmb] at hob
  rw [← hmb]
  have HMW := Lib.hid (show w.heap.size ≤ w2.heap.size from hb2.size)
  have HOB0 := Lib.hid hob
  have HB2 := Lib.hid hb2
  clear hmb hob hb2 hmade c0 c1 f0 f1 hl hb1 hs1 hz2
  go_wp2_with fail
  generalize hW : w2.alloc (.cells #[.int .i64 1, .int .i64 0, .int .i64 0] 38) = W
  have hbW : Below w2.heap.size w2 W := by rw [← hW]; exact (Below.refl _ _).alloc (Nat.le_refl _) _
  obtain ⟨X, hX⟩ : ∃ X, X = w2.heap.size := ⟨_, rfl⟩
  have hsW : W.heap.size = X + 1 := by rw [← hW, hX]; simp
  have x0 : W.cell? ⟨X, 0, none⟩ = some (.int .i64 1) := by rw [← hW, hX]; simp
  have x1 : W.cell? ⟨X, 1, none⟩ = some (.int .i64 0) := by rw [← hW, hX]; simp
  have x2 : W.cell? ⟨X, 2, none⟩ = some (.int .i64 0) := by rw [← hW, hX]; simp
  have xf : ∀ j, W.frozen? ⟨X, j, none⟩ = false := fun j => by rw [← hW, hX]; simp
  have HOB := Lib.hid (HOB0.out.below hbW)
  have HBW : Hid (Below w.heap.size w W) := Lib.hid (HB2.out.trans (hbW.mono HB2.out.size))
  have HXW := Lib.hid (show X < W.heap.size ∧ w.heap.size ≤ X ∧ X ≠ c ∧ X ≠ s ∧ X ≠ mb ∧ X ≠ pb by
    have h1 := HOB0.out.sl
    have h2 := HOB0.out.cl
    have h3 := World.block_lt_of_cell? w2 _ HOB0.out.c1
    simp at h3
    have h4 : pb < w2.heap.size := (Array.getElem?_eq_some_iff.1 HOB0.out.hb).1
    have h5 := HMW.out
    omega)
  have HXF := Lib.hid xf
  have HX := Lib.hid (And.intro x0 (And.intro x1 x2))
  rw [← hX]
  clear hW hbW hX hsW x0 x1 x2 xf
  go_loopw [36, 7] (fun s36 s7 wr => ∃ k at_ : Nat, s36 = .int .i64 k ∧ s7 = .int .i64 at_ ∧ k ≤ len ∧ at_ ≤ N ∧ Hid (Turn X W wr) ∧ Hid (wr.cell? ⟨X, 0, none⟩ = some (.int .i64 1) ∧ wr.cell? ⟨X, 1, none⟩ = some (.int .i64 0) ∧ wr.cell? ⟨X, 2, none⟩ = some (.int .i64 at_))) (fun s36 _ _ => len - (intOf s36).toNat)
  case atStart => exact ⟨0, 0, rfl, rfl, by omega, by omega, Lib.hid (Turn.refl _ _), HX⟩
  case round =>
    obtain ⟨k, q, rfl, rfl, hk, hq, HT, HP⟩ := hrel
    obtain ⟨p0, p1, p2⟩ := HP.out
    have hobr := HOB.out.turn HT.out HXW.out.2.2.2.2.1 HXW.out.2.2.2.2.2 HXW.out.2.2.2.1 HXW.out.2.2.1
    have HOR := Lib.hid hobr
    have hXr : X < wr.heap.size := Nat.lt_of_lt_of_le HXW.out.1 HT.out.size
    clear hobr
    by_cases hlt : k < len
    · obtain ⟨b, off, rfl, hbl, hxs⟩ : ∃ b off : Nat, a = some ⟨b, off, none⟩ ∧ b < w.heap.size ∧ ∀ i, i < len → w.cell? ⟨b, off + i, none⟩ = some (.int .i64 (xs i)) ∧ -9223372036854775808 ≤ xs i ∧ xs i ≤ 9223372036854775807 := by
        rcases HR.out with h | h
        · omega
        · exact h
      obtain ⟨e0, e1, e2⟩ := hxs k hlt
      obtain ⟨x, hx⟩ : ∃ x, x = xs k := ⟨_, rfl⟩
      rw [← hx] at e0 e1 e2
      have g0 : wr.cell? ⟨b, off + k, none⟩ = some (.int .i64 x) := by
        have hb' : Below w.heap.size w wr := HBW.out.trans (HT.out.below HXW.out.2.1 HBW.out.size)
        rw [hb'.cell (by exact hbl)]; exact e0
      have hkl : (k : Int) < len := by omega
      clear hxs e0 hx
      by_cases hin : 0 ≤ (q : Int) + x ∧ (q : Int) + x ≤ N
      · obtain ⟨q2, hq2⟩ : ∃ q2 : Nat, (q : Int) + x = q2 := ⟨((q : Int) + x).toNat, by omega⟩
        have ha1 := HOR.out.add_in q x hq hin.1 hin.2
        rw [hq2] at ha1
        unfold ptrV at ha1
        have HA1 := Lib.hid ha1
        have hq2N : q2 ≤ N := by omega
        have hw1 : wrap64 ((q : Int) + x) = q2 := by unfold wrap64; omega
        have hw2 : wrap64 (-x) = -x := by unfold wrap64; omega
        have hc1 : -(q : Int) ≤ x := by omega
        have hc2 : x ≤ (N : Int) - q := by omega
        have hc3 : ¬ x < -(q : Int) := by omega
        have hc4 : ¬ (N : Int) - q < x := by omega
        clear ha1 hin
        go_wp2_with fail
        (with_reducible refine HA1.out.mono ?_)
        rintro e w3 ⟨rfl, hb3⟩
        have HB3 := Lib.hid hb3
        have r0 : w3.cell? ⟨X, 0, none⟩ = some (.int .i64 1) := by rw [hb3.cell (by exact hXr)]; exact p0
        have r1 : w3.cell? ⟨X, 1, none⟩ = some (.int .i64 0) := by rw [hb3.cell (by exact hXr)]; exact p1
        have r2 : w3.cell? ⟨X, 2, none⟩ = some (.int .i64 q) := by rw [hb3.cell (by exact hXr)]; exact p2
        clear hb3
        go_wp2_with fail
        have hz3 := HB3.out.size
        have hb4a : Below wr.heap.size wr (w3.alloc (.cells #[.int .i64 1, .int .i64 0, .int .i64 q2] 38)) := HB3.out.alloc hz3 _
        have ha2 := (HOR.out.below hb4a).add_in q2 (-x) hq2N (by omega) (by omega)
        rw [show (q2 : Int) + -x = q from by omega] at ha2
        unfold ptrV at ha2
        have HA2 := Lib.hid ha2
        have HB4A := Lib.hid hb4a
        clear ha2 hb4a
        (with_reducible refine HA2.out.mono ?_)
        rintro e w4 ⟨rfl, hb4⟩
        have HB4 : Hid (Below wr.heap.size wr w4) := Lib.hid (HB4A.out.trans (hb4.mono HB4A.out.size))
        have y0 : w4.cell? ⟨w3.heap.size, 0, none⟩ = some (.int .i64 1) := by rw [hb4.cell (by simp)]; exact cell_new _ _ _ _ _ rfl
        have y1 : w4.cell? ⟨w3.heap.size, 1, none⟩ = some (.int .i64 0) := by rw [hb4.cell (by simp)]; exact cell_new _ _ _ _ _ rfl
        have y2 : w4.cell? ⟨w3.heap.size, 2, none⟩ = some (.int .i64 q2) := by rw [hb4.cell (by simp)]; exact cell_new _ _ _ _ _ rfl
        have s0 : w4.cell? ⟨X, 0, none⟩ = some (.int .i64 1) := by rw [HB4.out.cell (by exact hXr)]; exact p0
        have s1 : w4.cell? ⟨X, 1, none⟩ = some (.int .i64 0) := by rw [HB4.out.cell (by exact hXr)]; exact p1
        have s2 : w4.cell? ⟨X, 2, none⟩ = some (.int .i64 q) := by rw [HB4.out.cell (by exact hXr)]; exact p2
        have z0 : w4.frozen? ⟨X, 0, none⟩ = false := by rw [HB4.out.frozen (by exact hXr)]; exact HT.out.fz 0 (HXF.out 0)
        have z1 : w4.frozen? ⟨X, 1, none⟩ = false := by rw [HB4.out.frozen (by exact hXr)]; exact HT.out.fz 1 (HXF.out 1)
        have z2 : w4.frozen? ⟨X, 2, none⟩ = false := by rw [HB4.out.frozen (by exact hXr)]; exact HT.out.fz 2 (HXF.out 2)
        have hz4 : w3.heap.size < w4.heap.size := by have := hb4.size; simp at this; omega
        have hX4 : X < w4.heap.size := by omega
        have hn4 : X ≠ w4.heap.size := by omega
        have hn5 : w3.heap.size ≠ w4.heap.size := by omega
        have hn6 : w3.heap.size ≠ X := by omega
        have hn7 : X ≠ w3.heap.size := by omega
        clear hb4 r0 r1 r2 p0 p1 p2
        go_wp2_with fail
        go_roundw
        case rel =>
          have hset : Turn X w4 (((w4.setCell ⟨X, 0, none⟩ (.int .i64 1)).setCell ⟨X, 1, none⟩ (.int .i64 0)).setCell ⟨X, 2, none⟩ (.int .i64 q2)) := ((Turn.set ⟨X, 0, none⟩ rfl _).trans (Turn.set ⟨X, 1, none⟩ rfl _)).trans (Turn.set ⟨X, 2, none⟩ rfl _)
          have hXs : X < (((w4.setCell ⟨X, 0, none⟩ (.int .i64 1)).setCell ⟨X, 1, none⟩ (.int .i64 0)).setCell ⟨X, 2, none⟩ (.int .i64 q2)).heap.size := Nat.lt_of_lt_of_le hX4 hset.size
          exact ⟨k + 1, q2, by go_num, rfl, by omega, hq2N, Lib.hid (HT.out.trans ((Turn.of HB4.out hXr).trans (hset.trans (Turn.of ((Below.refl _ _).alloc (Nat.le_refl _) _) hXs)))), Lib.hid
            ⟨by rw [World.cell?_alloc_lt _ _ _ hXs, World.cell?_setCell_other _ _ _ _ (by simp), World.cell?_setCell_other _ _ _ _ (by simp)]; exact World.cell?_setCell_same _ _ _ s0,
             by rw [World.cell?_alloc_lt _ _ _ hXs, World.cell?_setCell_other _ _ _ _ (by simp)]; exact World.cell?_setCell_same (u := .int .i64 0) _ _ _ (by rw [World.cell?_setCell_other _ _ _ _ (by simp)]; exact s1),
             by rw [World.cell?_alloc_lt _ _ _ hXs]; exact World.cell?_setCell_same (u := .int .i64 q) _ _ _ (by rw [World.cell?_setCell_other _ _ _ _ (by simp), World.cell?_setCell_other _ _ _ _ (by simp)]; exact s2)⟩⟩
        case measure => simp [intOf]; omega
      · have ha1 := HOR.out.add_out q x hq hin
        unfold ptrV at ha1
        have HA1 := Lib.hid ha1
        have hdis : x < -(q : Int) ∨ (-(q : Int) ≤ x ∧ (N : Int) - q < x) := by omega
        clear ha1 hin
        rcases hdis with hc1 | ⟨hc1, hc2⟩
        · have hc3 : ¬ -(q : Int) ≤ x := by omega
          go_wp2_with (go_at_call 27
                       (with_reducible refine HA1.out.mono ?_)
                       rintro e w3 ⟨rfl, hb3⟩
                       have HB3 := Lib.hid hb3
                       clear hb3)
          go_roundw
          case rel =>
            have hz3 := HB3.out.size
            exact ⟨k + 1, q, by go_num, rfl, by omega, hq, Lib.hid (HT.out.trans ((Turn.of HB3.out hXr).trans (Turn.of ((Below.refl _ _).alloc (Nat.le_refl _) _) (by omega)))), Lib.hid (by
              have hb' : Below wr.heap.size wr (w3.alloc (.cells #[.int .i64 0, .int .i64 0, .int .i64 0] 38)) := HB3.out.alloc hz3 _
              exact ⟨by rw [hb'.cell (by exact hXr)]; exact p0, by rw [hb'.cell (by exact hXr)]; exact p1, by rw [hb'.cell (by exact hXr)]; exact p2⟩)⟩
          case measure => simp [intOf]; omega
        · have hc3 : ¬ x < -(q : Int) := by omega
          have hc4 : ¬ x ≤ (N : Int) - q := by omega
          go_wp2_with (go_at_call 27
                       (with_reducible refine HA1.out.mono ?_)
                       rintro e w3 ⟨rfl, hb3⟩
                       have HB3 := Lib.hid hb3
                       clear hb3)
          go_roundw
          case rel =>
            have hz3 := HB3.out.size
            exact ⟨k + 1, q, by go_num, rfl, by omega, hq, Lib.hid (HT.out.trans ((Turn.of HB3.out hXr).trans (Turn.of ((Below.refl _ _).alloc (Nat.le_refl _) _) (by omega)))), Lib.hid (by
              have hb' : Below wr.heap.size wr (w3.alloc (.cells #[.int .i64 0, .int .i64 0, .int .i64 0] 38)) := HB3.out.alloc hz3 _
              exact ⟨by rw [hb'.cell (by exact hXr)]; exact p0, by rw [hb'.cell (by exact hXr)]; exact p1, by rw [hb'.cell (by exact hXr)]; exact p2⟩)⟩
          case measure => simp [intOf]; omega
    · obtain rfl : k = len := by omega
      have HN1 := Lib.hid (fun w => add_kind mb 0 0 0 0 (by omega) w)
      have HN2 := Lib.hid (fun w => add_kind mb 2 0 0 0 (by omega) w)
      have hbr : Below w.heap.size w wr := HBW.out.trans (HT.out.below HXW.out.2.1 HBW.out.size)
      have HBR := Lib.hid hbr
      have hn1 := HN1.out
      have hn2 := HN2.out
      unfold ptrV at hn1 hn2
      have HM1 := Lib.hid hn1
      have HM2 := Lib.hid hn2
      clear hn1 hn2 hbr p0 p1 p2
      go_wp2_with fail
      (with_reducible refine (HM1.out _).mono ?_)
      rintro e w3 ⟨rfl, hb3⟩
      have HB3 : Hid (Below w.heap.size w w3) := Lib.hid (HBR.out.trans (hb3.mono HBR.out.size))
      clear hb3
      go_wp2_with fail
      (with_reducible refine (HM2.out _).mono ?_)
      rintro e w4 ⟨rfl, hb4⟩
      have HB4 : Hid (Below w.heap.size w w4) := Lib.hid ((HB3.out.alloc HB3.out.size _).trans (hb4.mono (by have := HB3.out.size; simp; omega)))
      clear hb4
      go_wp2_with fail
      go_ret
      exact ⟨rfl, HB4.out.alloc HB4.out.size _⟩
end Go.Proofs.Ytdkhanjfncbfnaa
