import Derived.Test.YtdkhanjfncbfnaaOsH
namespace Go.Proofs.Ytdkhanjfncbfnaa
open Go Go.RowKit
set_option linter.unusedVariables false
set_option linter.unusedSimpArgs false

/-- Nothing but block c turns. -/
structure Turn (c : Nat) (w w' : World) : Prop where
  os : w'.os = w.os
  tape : w'.tape = w.tape
  output : w'.output = w.output
  size : w.heap.size ≤ w'.heap.size
  block : ∀ g, g < w.heap.size → g ≠ c → w'.heap[g]? = w.heap[g]?
  fz : ∀ j, w.frozen? ⟨c, j, none⟩ = false → w'.frozen? ⟨c, j, none⟩ = false
theorem Turn.refl (c : Nat) (w : World) : Turn c w w := ⟨rfl, rfl, rfl, Nat.le_refl _, fun _ _ _ => rfl, fun _ h => h⟩
theorem Turn.trans {c : Nat} {a b d : World} (h : Turn c a b) (k : Turn c b d) : Turn c a d :=
  ⟨k.os.trans h.os, k.tape.trans h.tape, k.output.trans h.output, Nat.le_trans h.size k.size, fun g hg hne => (k.block g (Nat.lt_of_lt_of_le hg h.size) hne).trans (h.block g hg hne), fun j hj => k.fz j (h.fz j hj)⟩
theorem Turn.of {c : Nat} {w w' : World} (hb : Below w.heap.size w w') (hc : c < w.heap.size) : Turn c w w' :=
  ⟨hb.os, hb.tape, hb.output, hb.size, fun g hg _ => hb.block g hg, fun j hj => by rw [hb.frozen (by exact hc)]; exact hj⟩
theorem Turn.set {c : Nat} {w : World} (p : Addr) (hp : p.block = c) (v : Value) : Turn c w (w.setCell p v) :=
  ⟨rfl, rfl, rfl, by simp, fun g _ hne => Below.heap_setCell _ _ _ _ (fun e => hne (by rw [e, hp])), fun j hj => by rw [World.frozen?_setCell]; exact hj⟩
theorem Turn.drew {c : Nat} {w w' : World} (h : Turn c w w') : Turn c w w'.drew := ⟨h.os, h.tape, h.output, h.size, h.block, h.fz⟩
theorem Turn.below {c lim : Nat} {w w' : World} (h : Turn c w w') (hc : lim ≤ c) (hl : lim ≤ w.heap.size) : Below lim w w' :=
  ⟨h.os, h.tape, h.output, h.size, fun g hg => h.block g (by omega) (by omega)⟩
theorem Turn.cell {c : Nat} {w w' : World} (h : Turn c w w') {a : Addr} (ha : a.block < w.heap.size) (hne : a.block ≠ c) : w'.cell? a = w.cell? a := World.cell?_of_block (h.block _ ha hne)

def put5 (w : World) (c p : Nat) (v : Cl) : World := ((((w.setCell ⟨c, p, none⟩ (.int .u8 v.h)).setCell ⟨c, p + 1, none⟩ (.int .u8 v.b)).setCell ⟨c, p + 2, none⟩ (.int .i64 v.k)).setCell ⟨c, p + 3, none⟩ (.int .i64 v.o)).setCell ⟨c, p + 4, none⟩ (.int .i64 v.f)
theorem put5_other (w : World) (c p : Nat) (v : Cl) (j : Nat) (h : j < p ∨ p + 4 < j) : (put5 w c p v).cell? ⟨c, j, none⟩ = w.cell? ⟨c, j, none⟩ := by
  unfold put5
  have hne : ∀ i, i ≤ 4 → (⟨c, p + i, none⟩ : Addr) ≠ ⟨c, j, none⟩ := fun i hi e => by
    have := congrArg Addr.off e
    simp at this; omega
  have h0 := hne 0 (by omega)
  rw [Nat.add_zero] at h0
  rw [World.cell?_setCell_other _ _ _ _ (hne 4 (by omega)), World.cell?_setCell_other _ _ _ _ (hne 3 (by omega)), World.cell?_setCell_other _ _ _ _ (hne 2 (by omega)), World.cell?_setCell_other _ _ _ _ (hne 1 (by omega)), World.cell?_setCell_other _ _ _ _ h0]
theorem Cells5.put {w : World} {c N : Nat} {C : Nat → Cl} (h : Cells5 w c 0 N C) (i0 p : Nat) (hi0 : i0 < N) (hp : p = i0 * 5) (v : Cl) : Cells5 (put5 w c p v).drew c 0 N (fun i => if i = i0 then v else C i) := by
  subst hp
  intro i hi
  simp only [drew_cell]
  by_cases he : i = i0
  · subst he
    simp only [if_true]
    obtain ⟨h0, h1, h2, h3, h4⟩ := h i hi
    rw [Nat.zero_add] at h0 h1 h2 h3 h4 ⊢
    unfold put5
    refine ⟨?_, ?_, ?_, ?_, ?_⟩ <;> simp [h0, h1, h2, h3, h4, World.cell?_setCell_same', World.cell?_setCell_other]
  · simp only [he, if_false]
    obtain ⟨h0, h1, h2, h3, h4⟩ := h i hi
    have hfar : ∀ q, q ≤ 4 → 0 + i * 5 + q < i0 * 5 ∨ i0 * 5 + 4 < 0 + i * 5 + q := fun q hq => by omega
    have f0 := hfar 0 (by omega)
    rw [Nat.add_zero] at f0
    exact ⟨by rw [put5_other _ _ _ _ _ f0]; exact h0, by rw [put5_other _ _ _ _ _ (hfar 1 (by omega))]; exact h1, by rw [put5_other _ _ _ _ _ (hfar 2 (by omega))]; exact h2, by rw [put5_other _ _ _ _ _ (hfar 3 (by omega))]; exact h3, by rw [put5_other _ _ _ _ _ (hfar 4 (by omega))]; exact h4⟩
theorem Turn.put5 (c : Nat) (w : World) (p : Nat) (v : Cl) : Turn c w (put5 w c p v) := by
  unfold Go.Proofs.Ytdkhanjfncbfnaa.put5
  exact ((((Turn.set ⟨c, p, none⟩ rfl _).trans (Turn.set ⟨c, p + 1, none⟩ rfl _)).trans (Turn.set ⟨c, p + 2, none⟩ rfl _)).trans (Turn.set ⟨c, p + 3, none⟩ rfl _)).trans (Turn.set ⟨c, p + 4, none⟩ rfl _)
/-- Byte i of a number. -/
def byteOf (x : Int) (i : Nat) : Int := x / 2 ^ (8 * i) % 256
def numC (x : Int) (i : Nat) : Cl := ⟨1, byteOf x i, 0, 0, 0⟩
def putC (C : Nat → Cl) (q k : Nat) (x : Int) : Nat → Cl := fun i => if q ≤ i ∧ i < q + k then numC x (i - q) else C i

set_option maxRecDepth 100000 in
set_option maxHeartbeats 16000000 in
theorem store_int (mb : Nat) (k o f : Int) (sz : Nat) (hsz : sz ≤ 8) (sg sc : Bool) (x pk po pf : Int) (isp : Bool) (s so c q r N : Nat) (C : Nat → Cl) (hN : q + sz ≤ N) (hNN : N ≤ 1000000000) (w : World)
    (h : AccIs w mb (ptrV k o f) (tI sz sg sc) (.agg #[.slice (some ⟨s, so, none⟩) sz r, .slice (some ⟨c, q * 5, none⟩) sz r]) true) (hC : Cells5 w c 0 N C) (hcl : c < w.heap.size) (hfz : ∀ j, w.frozen? ⟨c, j, none⟩ = false) :
    Calls Try.prog 22 #[.pointer (some ⟨mb, 0, none⟩), ptrV k o f, tI sz sg sc, .agg #[.int .i64 x, .int .i64 pk, .int .i64 po, .int .i64 pf, .bool isp]] w fun e w' => e = .returned (.bool true) ∧ Turn c w w' ∧ Cells5 w' c 0 N (putC C q sz x) := by
  have h' := h
  unfold AccIs ptrV tI at h'
  have H := Lib.hid h'
  have HC := Lib.hid hC
  have HF := Lib.hid hfz
  clear h h' hC hfz
  unfold ptrV tI
  go_enter Try.func22, Try.ntmps22
  go_wp2_with fail
  have hb0 : Below w.heap.size w (((w.alloc (.cells #[.int .i64 k, .int .i64 o, .int .i64 f] 38)).alloc (.cells #[.int .i64 1, .int .i64 sz, .bool sg, .bool sc, .pointer none, .int .i64 0, .int .i64 0, .slice none 0 0, .pointer none] 57)).alloc (.cells #[.int .i64 x, .int .i64 pk, .int .i64 po, .int .i64 pf, .bool isp] 74)) := (((Below.refl _ _).alloc (Nat.le_refl _) _).alloc (by simp) _).alloc (by simp; omega) _
  (with_reducible refine (H.out _ hb0).mono ?_)
  rintro e w1 ⟨rfl, hb1⟩
  have hB1 : Below w.heap.size w w1 := hb0.trans (hb1.mono hb0.size)
  have hs1 : w.heap.size + 3 ≤ w1.heap.size := by have := hb1.size; simp at this; omega
  have t0 : w1.cell? ⟨w.heap.size + 1, 0, none⟩ = some (.int .i64 1) := by rw [hb1.cell (by simp; try omega), World.cell?_alloc_lt _ _ _ (by simp; try omega)]; exact cell_new _ _ _ _ _ (by simp)
  have v0 : w1.cell? ⟨w.heap.size + 1 + 1, 0, none⟩ = some (.int .i64 x) := by rw [hb1.cell (by simp; try omega)]; exact cell_new _ _ _ _ _ (by simp)
  have HB1 := Lib.hid hB1
  clear hb0 hb1 hB1
  go_wp2_with fail
  generalize hW : w1.alloc (.cells #[.slice (some ⟨s, so, none⟩) sz r, .slice (some ⟨c, q * 5, none⟩) sz r] 102) = W
  have hbW : Below w1.heap.size w1 W := by rw [← hW]; exact (Below.refl _ _).alloc (Nat.le_refl _) _
  have o1 : W.cell? ⟨w1.heap.size, 1, none⟩ = some (.slice (some ⟨c, q * 5, none⟩) sz r) := by rw [← hW]; exact cell_new _ _ _ _ _ rfl
  have hsW : W.heap.size = w1.heap.size + 1 := by rw [← hW]; simp
  obtain ⟨O, hO⟩ : ∃ O, O = w1.heap.size := ⟨_, rfl⟩
  obtain ⟨V, hV⟩ : ∃ V, V = w.heap.size + 1 + 1 := ⟨_, rfl⟩
  obtain ⟨X, hX⟩ : ∃ X, X = w.heap.size + 1 := ⟨_, rfl⟩
  rw [← hV] at v0
  rw [← hX] at t0
  rw [← hO] at o1
  have T0 : W.cell? ⟨X, 0, none⟩ = some (.int .i64 1) := by rw [hbW.cell (by show X < w1.heap.size; omega)]; exact t0
  have V0 : W.cell? ⟨V, 0, none⟩ = some (.int .i64 x) := by rw [hbW.cell (by show V < w1.heap.size; omega)]; exact v0
  have hcW : ∀ {p : Nat}, p < w.heap.size → p < W.heap.size := fun h => by omega
  have HBW : Hid (Below w.heap.size w W) := Lib.hid (HB1.out.trans (hbW.mono HB1.out.size))
  have HOW : Hid (O < W.heap.size ∧ V < W.heap.size ∧ X < W.heap.size ∧ c < W.heap.size) := Lib.hid (by omega)
  have hcO : c ≠ O := by omega
  have hcV : c ≠ V := by omega
  have hcX : c ≠ X := by omega
  have HT0 := Lib.hid T0
  have HV0 := Lib.hid V0
  have HO1 := Lib.hid o1
  rw [← hV, ← hX, ← hO]
  clear hW hbW hsW hO hV hX v0 t0 T0 V0 o1 hs1 hcW
  go_loopw [24] (fun s24 wr => ∃ n : Nat, s24 = .int .i64 n ∧ n ≤ sz ∧ Turn c W wr ∧ Hid (Cells5 wr c 0 N (putC C q n x))) (fun s24 _ => sz - (intOf s24).toNat)
  case atStart => exact ⟨0, rfl, by omega, Turn.refl _ _, Lib.hid (by
    have : putC C q 0 x = C := by funext i; unfold putC; rw [if_neg (by omega)]
    rw [this]; exact HC.out.below HBW.out hcl)⟩
  case round =>
    obtain ⟨n, rfl, hn, ht, HCn⟩ := hrel
    have HT := Lib.hid ht
    have hO1 : wr.cell? ⟨O, 1, none⟩ = some (.slice (some ⟨c, q * 5, none⟩) sz r) := by rw [ht.cell (by exact HOW.out.1) (by exact hcO.symm)]; exact HO1.out
    have hV0 : wr.cell? ⟨V, 0, none⟩ = some (.int .i64 x) := by rw [ht.cell (by exact HOW.out.2.1) (by exact hcV.symm)]; exact HV0.out
    have hT0 : wr.cell? ⟨X, 0, none⟩ = some (.int .i64 1) := by rw [ht.cell (by exact HOW.out.2.2.1) (by exact hcX.symm)]; exact HT0.out
    clear ht
    by_cases hlt : n < sz
    · obtain ⟨c0, c1, c2, c3, c4⟩ := HCn.out (q + n) (by omega)
      have he : 0 + (q + n) * 5 = q * 5 + n * 5 := by omega
      rw [he] at c0 c1 c2 c3 c4
      obtain ⟨D, hD⟩ : ∃ D, D = putC C q n x (q + n) := ⟨_, rfl⟩
      rw [← hD] at c0 c1 c2 c3 c4
      have hfz : ∀ j, wr.frozen? ⟨c, j, none⟩ = false := fun j => HT.out.fz j (by rw [HBW.out.frozen (by exact hcl)]; exact HF.out j)
      have f0 := hfz (q * 5 + n * 5)
      have f1 := hfz (q * 5 + n * 5 + 1)
      have f2 := hfz (q * 5 + n * 5 + 2)
      have f3 := hfz (q * 5 + n * 5 + 3)
      have f4 := hfz (q * 5 + n * 5 + 4)
      have hnl : (n : Int) < sz := by omega
      have SD : Hid (wr.drew.cell? ⟨O, 1, none⟩ = some (.slice (some ⟨c, q * 5, none⟩) sz r) ∧ wr.drew.cell? ⟨V, 0, none⟩ = some (.int .i64 x)) := Lib.hid ⟨hO1, hV0⟩
      have hw8 : IntKind.i64.wrap (8 * (n : Int)) = 8 * (n : Int) := by rw [IntKind.wrap_i64]; omega
      clear hfz hD he
      go_upto_region 9 with fail
      refine wp_region_held_drew (S := (fun w' => w'.cell? ⟨O, 1, none⟩ = some (.slice (some ⟨c, q * 5, none⟩) sz r) ∧ w'.cell? ⟨V, 0, none⟩ = some (.int .i64 x))) (by kernel_rfl) (by exact SD.out) (fun hHeld => ?_)
      refine takeD (i := 0) (d := 38) (v := ?_) rfl rfl (by kernel_rfl) (by kernel_rfl) (by kernel_rfl) (fun _ _ _ h => h) (Or.inl ⟨by rfl, ?_⟩) (by assumption) ?_
      rotate_left
      · intro w hSw
        (try dsimp only at hSw)
        go_simp
        (try with_reducible rfl)
      (try simp only [Act.put, List.setIfInBounds_toArray, List.set_cons_zero, List.set_cons_succ])
      refine takeD (i := 1) (d := 39) (v := ?_) rfl rfl (by kernel_rfl) (by kernel_rfl) (by kernel_rfl) (fun _ _ _ h => h) (Or.inl ⟨by rfl, ?_⟩) (by assumption) ?_
      rotate_left
      · intro w hSw
        (try dsimp only at hSw)
        go_simp
        (try with_reducible rfl)
      (try simp only [Act.put, List.setIfInBounds_toArray, List.set_cons_zero, List.set_cons_succ])
      refine takeD (i := 2) (d := 40) (v := ?_) rfl rfl (by kernel_rfl) (by kernel_rfl) (by kernel_rfl) (fun _ _ _ h => h) (Or.inl ⟨by rfl, ?_⟩) (by assumption) ?_
      rotate_left
      · intro w hSw
        (try dsimp only at hSw)
        go_simp
        (try with_reducible rfl)
      (try simp only [Act.put, List.setIfInBounds_toArray, List.set_cons_zero, List.set_cons_succ])
      refine takeD (i := 3) (d := 41) (v := ?_) rfl rfl (by kernel_rfl) (by kernel_rfl) (by kernel_rfl) (fun _ _ _ h => h) (Or.inl ⟨by rfl, ?_⟩) (by assumption) ?_
      rotate_left
      · intro w hSw
        (try dsimp only at hSw)
        go_simp
        (try with_reducible rfl)
      (try simp only [Act.put, List.setIfInBounds_toArray, List.set_cons_zero, List.set_cons_succ])
      refine takeD (i := 4) (d := 42) (v := ?_) rfl rfl (by kernel_rfl) (by kernel_rfl) (by kernel_rfl) (fun _ _ _ h => h) (Or.inl ⟨by rfl, ?_⟩) (by assumption) ?_
      rotate_left
      · intro w hSw
        (try dsimp only at hSw)
        go_simp
        (try with_reducible rfl)
      (try simp only [Act.put, List.setIfInBounds_toArray, List.set_cons_zero, List.set_cons_succ])
      refine takeD (i := 5) (d := 43) (v := ?_) rfl rfl (by kernel_rfl) (by kernel_rfl) (by kernel_rfl) (fun _ _ _ h => h) (Or.inl ⟨by rfl, ?_⟩) (by assumption) ?_
      rotate_left
      · intro w hSw
        (try dsimp only at hSw)
        go_simp
        (try with_reducible rfl)
      (try simp only [Act.put, List.setIfInBounds_toArray, List.set_cons_zero, List.set_cons_succ])
      refine takeD (i := 6) (d := 44) (v := ?_) rfl rfl (by kernel_rfl) (by kernel_rfl) (by kernel_rfl) (fun _ _ _ h => h) (Or.inl ⟨by rfl, ?_⟩) (by assumption) ?_
      rotate_left
      · intro w hSw
        (try dsimp only at hSw)
        go_simp
        (try with_reducible rfl)
      (try simp only [Act.put, List.setIfInBounds_toArray, List.set_cons_zero, List.set_cons_succ])
      refine takeD (i := 7) (d := 45) (v := ?_) rfl rfl (by kernel_rfl) (by kernel_rfl) (by kernel_rfl) (fun _ _ _ h => h) (Or.inl ⟨by rfl, ?_⟩) (by assumption) ?_
      rotate_left
      · intro w hSw
        (try dsimp only at hSw)
        go_simp
        (try with_reducible rfl)
      (try simp only [Act.put, List.setIfInBounds_toArray, List.set_cons_zero, List.set_cons_succ])
      refine takeD (i := 8) (d := 46) (v := ?_) rfl rfl (by kernel_rfl) (by kernel_rfl) (by kernel_rfl) (fun _ _ _ h => h) (Or.inl ⟨by rfl, ?_⟩) (by assumption) ?_
      rotate_left
      · intro w hSw
        (try dsimp only at hSw)
        go_simp
        (try with_reducible rfl)
      (try simp only [Act.put, List.setIfInBounds_toArray, List.set_cons_zero, List.set_cons_succ])
      refine takeD (i := 9) (d := 47) (v := ?_) rfl rfl (by kernel_rfl) (by kernel_rfl) (by kernel_rfl) (fun _ _ _ h => h) (Or.inl ⟨by rfl, ?_⟩) (by assumption) ?_
      rotate_left
      · intro w hSw
        (try dsimp only at hSw)
        go_simp
        (try with_reducible rfl)
      (try simp only [Act.put, List.setIfInBounds_toArray, List.set_cons_zero, List.set_cons_succ])
      refine takeD (i := 10) (d := 48) (v := ?_) rfl rfl (by kernel_rfl) (by kernel_rfl) (by kernel_rfl) (fun _ _ _ h => h) (Or.inl ⟨by rfl, ?_⟩) (by assumption) ?_
      rotate_left
      · intro w hSw
        (try dsimp only at hSw)
        go_simp
        (try with_reducible rfl)
      (try simp only [Act.put, List.setIfInBounds_toArray, List.set_cons_zero, List.set_cons_succ])
      refine wpAnyH_ready (rs := [11]) (by kernel_rfl) (by simp) ?_
      refine AllReadyH.cons rfl (fun K hK => ?_) AllReadyH.nil
      go_simp
      refine hK.out _ _ ?_ (fun hHeld2 => ?_)
      · (refine ⟨?_, ?_⟩ <;> (rw [drew_cell] <;> (rw [World.cell?_setCell_far _ _ _ _ (by assumption), World.cell?_setCell_far _ _ _ _ (by assumption), World.cell?_setCell_far _ _ _ _ (by assumption), World.cell?_setCell_far _ _ _ _ (by assumption), World.cell?_setCell_far _ _ _ _ (by assumption)]; assumption)))
      clear hHeld hK K
      have hHeld := hHeld2
      clear hHeld2
      (try simp only [Act.put, List.setIfInBounds_toArray, List.set_cons_zero, List.set_cons_succ])
      refine wpAnyH_done (by kernel_rfl) ?_ _
      clear hHeld
      go_wp2_with fail
      go_roundw
      case rel =>
        refine ⟨n + 1, by go_num, by omega, HT.out.trans ((Turn.put5 c wr (q * 5 + n * 5) (numC x n)).drew), Lib.hid ?_⟩
        have hput := (HCn.out).put (q + n) (q * 5 + n * 5) (by omega) (by omega) (numC x n)
        have hfun : (fun i => if i = q + n then numC x n else putC C q n x i) = putC C q (n + 1) x := by
          funext i
          unfold putC
          by_cases h1 : i = q + n
          · subst h1
            rw [if_pos rfl, if_pos (by omega), show q + n - q = n from by omega]
          · rw [if_neg h1]
            by_cases h2 : q ≤ i ∧ i < q + n
            · rw [if_pos h2, if_pos (by omega)]
            · rw [if_neg h2, if_neg (by omega)]
        rw [hfun] at hput
        exact hput
      case measure => simp [intOf]; omega
    · obtain rfl : n = sz := by omega
      go_wp2_with fail
      go_ret
      exact ⟨rfl, (Turn.of HBW.out hcl).trans HT.out, HCn.out⟩
end Go.Proofs.Ytdkhanjfncbfnaa
