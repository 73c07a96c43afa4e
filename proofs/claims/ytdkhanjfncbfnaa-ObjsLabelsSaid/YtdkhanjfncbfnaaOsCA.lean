import Derived.Test.YtdkhanjfncbfnaaOsM
namespace Go.Proofs.Ytdkhanjfncbfnaa
open Go Go.RowKit
set_option linter.unusedVariables false
set_option linter.unusedSimpArgs false

/-- Byte i of a pointer. -/
def ptrC (k o f : Int) (i : Nat) : Cl := ⟨2, i, k, o, f⟩
def pvV (k o f : Int) : Value := .agg #[.int .i64 0, .int .i64 k, .int .i64 o, .int .i64 f, .bool true]
theorem lt_of_cellC {w : World} {b o : Nat} {v : Value} (h : w.cell? ⟨b, o, none⟩ = some v) : b < w.heap.size := by simpa using World.block_lt_of_cell? w _ h

set_option maxRecDepth 100000 in
set_option maxHeartbeats 8000000 in
theorem pointerByte_any (k o f : Int) (i : Nat) (hi : i < 8) (w : World) :
    Calls Try.prog 46 #[.agg #[.int .i64 k, .int .i64 o, .int .i64 f], .int .i64 (i : Int)] w fun e w' => e = .returned (.agg #[.int .u8 2, .int .u8 (i : Int), .int .i64 k, .int .i64 o, .int .i64 f]) ∧ Below w.heap.size w w' := by
  have hw : IntKind.u8.wrap (i : Int) = (i : Int) := by rw [IntKind.wrap_u8]; omega
  go_enter Try.func46, Try.ntmps46
  go_wp2_with fail
  have hbv := Below.refl w.heap.size w
  refine bodyPost_ret (v := .agg #[.int .u8 2, .int .u8 (i : Int), .int .i64 k, .int .i64 o, .int .i64 f]) ?_ rfl ⟨rfl, ?_⟩
  · simp [results, Try.results46, go_sem]
  · ((repeat (first | (with_reducible exact hbv) | (with_reducible apply Below.setCell) | (with_reducible apply Below.alloc) | (with_reducible apply Below.drew))) <;> first | omega | (simp <;> omega))
theorem cell_cases (x : Cl) (n : Nat) (k o f : Int) : x = ptrC k o f n ∨ x.h ≠ 2 ∨ (x.h = 2 ∧ x.b ≠ n) ∨ (x.h = 2 ∧ x.b = n ∧ x.k ≠ k) ∨ (x.h = 2 ∧ x.b = n ∧ x.k = k ∧ x.o ≠ o) ∨ (x.h = 2 ∧ x.b = n ∧ x.k = k ∧ x.o = o ∧ x.f ≠ f) := by
  obtain ⟨a, b, c, d, e⟩ := x
  by_cases h0 : a = 2
  · by_cases h1 : b = n
    · by_cases h2 : c = k
      · by_cases h3 : d = o
        · by_cases h4 : e = f
          · left; subst h0 h1 h2 h3 h4; rfl
          · simp [*]
        · simp [*]
      · simp [*]
    · simp [*]
  · simp [*]

set_option maxRecDepth 100000 in
set_option maxHeartbeats 8000000 in
theorem pointer_any (s so c co r : Nat) (hr : r ≤ 1000000000) (C : Nat → Cl) (k o f : Int) (hp : (C 0).k = k ∧ (C 0).o = o ∧ (C 0).f = f) (ok : Bool) (hok : ok = true ↔ ∀ i, i < 8 → C i = ptrC k o f i) (w : World) (hC : Cells5 w c co 8 C) (hcl : c < w.heap.size) :
    Calls Try.prog 47 #[.agg #[.slice (some ⟨s, so, none⟩) 8 r, .slice (some ⟨c, co, none⟩) 8 r]] w fun e w' => e = .returned (.tuple #[if ok then pvV k o f else numV 0, .bool ok]) ∧ Below w.heap.size w w' := by
  have HC := Lib.hid hC
  have HOK := Lib.hid hok
  obtain ⟨c0, c1, c2, c3, c4⟩ := hC 0 (by omega)
  simp only [Nat.zero_mul, Nat.add_zero] at c0 c1 c2 c3 c4
  obtain ⟨hp0, hp1, hp2⟩ := hp
  rw [hp0] at c2
  rw [hp1] at c3
  rw [hp2] at c4
  have hcn : c ≠ w.heap.size := by omega
  have hcn1 : c ≠ w.heap.size + 1 := by omega
  clear hC hok hp0 hp1 hp2
  go_enter Try.func47, Try.ntmps47
  go_upto_region 2 with fail
  generalize hW : ((w.alloc (.cells #[.slice (some ⟨s, so, none⟩) 8 r, .slice (some ⟨c, co, none⟩) 8 r] 102)).alloc (.cells #[.int .i64 0, .int .i64 0, .int .i64 0, .int .i64 0, .bool false] 74)).alloc (.cells #[.int .i64 k, .int .i64 o, .int .i64 f] 38) = W
  have hbW : Below w.heap.size w W := by rw [← hW]; exact (((Below.refl _ _).alloc (Nat.le_refl _) _).alloc (by simp) _).alloc (by simp; omega) _
  have hsW : W.heap.size = w.heap.size + 3 := by rw [← hW]; simp
  obtain ⟨V, hV⟩ : ∃ V, V = w.heap.size + 1 := ⟨_, rfl⟩
  obtain ⟨Q, hQ⟩ : ∃ Q, Q = w.heap.size + 1 + 1 := ⟨_, rfl⟩
  have o1 : W.cell? ⟨w.heap.size, 1, none⟩ = some (.slice (some ⟨c, co, none⟩) 8 r) := by rw [← hW, World.cell?_alloc_lt _ _ _ (by simp; try omega), World.cell?_alloc_lt _ _ _ (by simp; try omega)]; exact cell_new _ _ _ _ _ rfl
  have HY : Hid (W.cell? ⟨V, 0, none⟩ = some (.int .i64 0) ∧ W.cell? ⟨V, 1, none⟩ = some (.int .i64 0) ∧ W.cell? ⟨V, 2, none⟩ = some (.int .i64 0) ∧ W.cell? ⟨V, 3, none⟩ = some (.int .i64 0) ∧ W.cell? ⟨V, 4, none⟩ = some (.bool false) ∧ ∀ j, W.frozen? ⟨V, j, none⟩ = false) := Lib.hid (by
    rw [← hW, hV]
    exact ⟨by rw [World.cell?_alloc_lt _ _ _ (by simp; try omega)]; exact cell_new _ _ _ _ _ (by simp), by rw [World.cell?_alloc_lt _ _ _ (by simp; try omega)]; exact cell_new _ _ _ _ _ (by simp), by rw [World.cell?_alloc_lt _ _ _ (by simp; try omega)]; exact cell_new _ _ _ _ _ (by simp), by rw [World.cell?_alloc_lt _ _ _ (by simp; try omega)]; exact cell_new _ _ _ _ _ (by simp), by rw [World.cell?_alloc_lt _ _ _ (by simp; try omega)]; exact cell_new _ _ _ _ _ (by simp), fun j => by rw [((Below.refl _ _).alloc (Nat.le_refl _) _).frozen (by simp; try omega)]; exact frozen_new _ _ _ _ _ (by simp)⟩)
  have HQ : Hid (W.cell? ⟨Q, 0, none⟩ = some (.int .i64 k) ∧ W.cell? ⟨Q, 1, none⟩ = some (.int .i64 o) ∧ W.cell? ⟨Q, 2, none⟩ = some (.int .i64 f)) := Lib.hid (by
    rw [← hW, hQ]
    exact ⟨cell_new _ _ _ _ _ (by simp), cell_new _ _ _ _ _ (by simp), cell_new _ _ _ _ _ (by simp)⟩)
  rw [← hQ, ← hV]
  have HBW := Lib.hid hbW
  have HSW := Lib.hid (show w.heap.size < W.heap.size ∧ V < W.heap.size ∧ Q < W.heap.size ∧ w.heap.size ≤ V ∧ V ≠ Q from by omega)
  clear hW hbW hsW hV hQ c0 c1 c2 c3 c4 hcn hcn1
  go_wp2_with fail
  go_loopw [15] (fun s15 wr => ∃ n : Nat, s15 = .int .i64 n ∧ n ≤ 8 ∧ Below W.heap.size W wr ∧ Hid (∀ i, i < n → C i = ptrC k o f i)) (fun s15 _ => 8 - (intOf s15).toNat)
  case atStart => exact ⟨0, rfl, by omega, Below.refl _ _, Lib.hid (fun i hi => by omega)⟩
  case round =>
    obtain ⟨n, rfl, hn, hb, HN⟩ := hrel
    have HB := Lib.hid hb
    by_cases hlt : n < 8
    · obtain ⟨c0, c1, c2, c3, c4⟩ := (HC.out.below HBW.out hcl).below hb (by have := HSW.out; omega) n hlt
      have hcc := cell_cases (C n) n k o f
      obtain ⟨D, hD⟩ : ∃ D, D = C n := ⟨_, rfl⟩
      rw [← hD] at c0 c1 c2 c3 c4 hcc
      have HD := Lib.hid hD
      have HCC := Lib.hid hcc
      obtain ⟨dh, db, dk, dp, df⟩ := D
      simp only at c0 c1 c2 c3 c4
      have hnl : (n : Int) < 8 := by omega
      clear hb hD hcc
      go_upto_region 5 with fail
      generalize hW4 : wr.alloc (.cells #[.int .u8 dh, .int .u8 db, .int .i64 dk, .int .i64 dp, .int .i64 df] 121) = W4
      obtain ⟨Z, hZ⟩ : ∃ Z, Z = wr.heap.size := ⟨_, rfl⟩
      rw [← hZ]
      have hb4 : Below wr.heap.size wr W4 := by rw [← hW4]; exact (Below.refl _ _).alloc (Nat.le_refl _) _
      have HB4 : Hid (Below W.heap.size W W4) := Lib.hid (HB.out.trans (hb4.mono HB.out.size))
      have SD : Hid ((W4.cell? ⟨Z, 0, none⟩ = some (.int .u8 dh) ∧ W4.cell? ⟨Z, 1, none⟩ = some (.int .u8 db) ∧ W4.cell? ⟨Z, 2, none⟩ = some (.int .i64 dk) ∧ W4.cell? ⟨Z, 3, none⟩ = some (.int .i64 dp) ∧ W4.cell? ⟨Z, 4, none⟩ = some (.int .i64 df)) ∧ (W4.cell? ⟨Q, 0, none⟩ = some (.int .i64 k) ∧ W4.cell? ⟨Q, 1, none⟩ = some (.int .i64 o) ∧ W4.cell? ⟨Q, 2, none⟩ = some (.int .i64 f))) := Lib.hid (by
        obtain ⟨q0, q1, q2⟩ := HQ.out
        have hQl := HSW.out.2.2.1
        refine ⟨⟨?_, ?_, ?_, ?_, ?_⟩, ?_, ?_, ?_⟩
        · rw [← hW4, hZ]; exact cell_new _ _ _ _ _ rfl
        · rw [← hW4, hZ]; exact cell_new _ _ _ _ _ rfl
        · rw [← hW4, hZ]; exact cell_new _ _ _ _ _ rfl
        · rw [← hW4, hZ]; exact cell_new _ _ _ _ _ rfl
        · rw [← hW4, hZ]; exact cell_new _ _ _ _ _ rfl
        · rw [HB4.out.cell (by exact hQl)]; exact q0
        · rw [HB4.out.cell (by exact hQl)]; exact q1
        · rw [HB4.out.cell (by exact hQl)]; exact q2)
      have SE : Hid ((W4.drew.cell? ⟨Z, 0, none⟩ = some (.int .u8 dh) ∧ W4.drew.cell? ⟨Z, 1, none⟩ = some (.int .u8 db) ∧ W4.drew.cell? ⟨Z, 2, none⟩ = some (.int .i64 dk) ∧ W4.drew.cell? ⟨Z, 3, none⟩ = some (.int .i64 dp) ∧ W4.drew.cell? ⟨Z, 4, none⟩ = some (.int .i64 df)) ∧ (W4.drew.cell? ⟨Q, 0, none⟩ = some (.int .i64 k) ∧ W4.drew.cell? ⟨Q, 1, none⟩ = some (.int .i64 o) ∧ W4.drew.cell? ⟨Q, 2, none⟩ = some (.int .i64 f))) := Lib.hid SD.out
      clear hW4 hZ hb4 c0 c1 c2 c3 c4
      rcases HCC.out with hcc | hcc | hcc | hcc | hcc | hcc
      · obtain ⟨rfl, rfl, rfl, rfl, rfl⟩ : 2 = dh ∧ (n : Int) = db ∧ k = dk ∧ o = dp ∧ f = df := by unfold ptrC at hcc; cases hcc; exact ⟨rfl, rfl, rfl, rfl, rfl⟩
        clear hcc
        refine wp_region_held_drew (S := (fun w' => (w'.cell? ⟨Z, 0, none⟩ = some (.int .u8 2) ∧ w'.cell? ⟨Z, 1, none⟩ = some (.int .u8 (n : Int)) ∧ w'.cell? ⟨Z, 2, none⟩ = some (.int .i64 k) ∧ w'.cell? ⟨Z, 3, none⟩ = some (.int .i64 o) ∧ w'.cell? ⟨Z, 4, none⟩ = some (.int .i64 f)) ∧ (w'.cell? ⟨Q, 0, none⟩ = some (.int .i64 k) ∧ w'.cell? ⟨Q, 1, none⟩ = some (.int .i64 o) ∧ w'.cell? ⟨Q, 2, none⟩ = some (.int .i64 f)))) (by kernel_rfl) (by (first | (with_reducible exact SD.out) | (with_reducible exact SE.out))) (fun hHeld => ?_)
        refine takeD (i := 0) (d := 20) (v := ?_) rfl rfl (by kernel_rfl) (by kernel_rfl) (by kernel_rfl) (fun _ _ _ h => h) (Or.inl ⟨by rfl, ?_⟩) (by assumption) ?_
        rotate_left
        · intro w hSw
          obtain ⟨⟨z0, z1, z2, z3, z4⟩, q0, q1, q2⟩ := hSw
          go_simp
          (try with_reducible rfl)
        (try simp only [Act.put, List.setIfInBounds_toArray, List.set_cons_zero, List.set_cons_succ])
        refine takeD (i := 1) (d := 21) (v := ?_) rfl rfl (by kernel_rfl) (by kernel_rfl) (by kernel_rfl) (fun _ _ _ h => h) (Or.inl ⟨by rfl, ?_⟩) (by assumption) ?_
        rotate_left
        · intro w hSw
          obtain ⟨⟨z0, z1, z2, z3, z4⟩, q0, q1, q2⟩ := hSw
          go_simp
          (try with_reducible rfl)
        (try simp only [Act.put, List.setIfInBounds_toArray, List.set_cons_zero, List.set_cons_succ])
        refine takeD (i := 2) (d := 22) (v := ?_) rfl rfl (by kernel_rfl) (by kernel_rfl) (by kernel_rfl) (fun _ _ _ h => h) (Or.inl ⟨by rfl, ?_⟩) (by assumption) ?_
        rotate_left
        · intro w hSw
          obtain ⟨⟨z0, z1, z2, z3, z4⟩, q0, q1, q2⟩ := hSw
          go_simp
          (try with_reducible rfl)
        (try simp only [Act.put, List.setIfInBounds_toArray, List.set_cons_zero, List.set_cons_succ])
        refine wpAnyH_ready (rs := [3]) (by kernel_rfl) (by simp) ?_
        refine AllReadyH.cons rfl (fun K hK => ?_) AllReadyH.nil
        go_simp
        (with_reducible refine (pointerByte_any k o f n hlt _).mono ?_)
        rintro e w5 ⟨rfl, hb5⟩
        have HB5 := Lib.hid hb5
        have HBE : Hid (Below W.heap.size W w5) := Lib.hid (HB4.out.drew.trans (hb5.mono HB4.out.size))
        clear hb5
        have HDD := SE.out
        clear SD SE
        have SD : Hid ((w5.cell? ⟨Z, 0, none⟩ = some (.int .u8 2) ∧ w5.cell? ⟨Z, 1, none⟩ = some (.int .u8 (n : Int)) ∧ w5.cell? ⟨Z, 2, none⟩ = some (.int .i64 k) ∧ w5.cell? ⟨Z, 3, none⟩ = some (.int .i64 o) ∧ w5.cell? ⟨Z, 4, none⟩ = some (.int .i64 f)) ∧ (w5.cell? ⟨Q, 0, none⟩ = some (.int .i64 k) ∧ w5.cell? ⟨Q, 1, none⟩ = some (.int .i64 o) ∧ w5.cell? ⟨Q, 2, none⟩ = some (.int .i64 f))) := Lib.hid (by
          obtain ⟨⟨z0, z1, z2, z3, z4⟩, q0, q1, q2⟩ := HDD
          exact ⟨⟨by rw [HB5.out.cell (by exact lt_of_cellC z0)]; exact z0, by rw [HB5.out.cell (by exact lt_of_cellC z0)]; exact z1, by rw [HB5.out.cell (by exact lt_of_cellC z0)]; exact z2, by rw [HB5.out.cell (by exact lt_of_cellC z0)]; exact z3, by rw [HB5.out.cell (by exact lt_of_cellC z0)]; exact z4⟩, by rw [HB5.out.cell (by exact lt_of_cellC q0)]; exact q0, by rw [HB5.out.cell (by exact lt_of_cellC q0)]; exact q1, by rw [HB5.out.cell (by exact lt_of_cellC q0)]; exact q2⟩)
        clear HDD
        have SE : Hid ((w5.drew.cell? ⟨Z, 0, none⟩ = some (.int .u8 2) ∧ w5.drew.cell? ⟨Z, 1, none⟩ = some (.int .u8 (n : Int)) ∧ w5.drew.cell? ⟨Z, 2, none⟩ = some (.int .i64 k) ∧ w5.drew.cell? ⟨Z, 3, none⟩ = some (.int .i64 o) ∧ w5.drew.cell? ⟨Z, 4, none⟩ = some (.int .i64 f)) ∧ (w5.drew.cell? ⟨Q, 0, none⟩ = some (.int .i64 k) ∧ w5.drew.cell? ⟨Q, 1, none⟩ = some (.int .i64 o) ∧ w5.drew.cell? ⟨Q, 2, none⟩ = some (.int .i64 f))) := Lib.hid SD.out
        refine hK.out _ _ ?_ (fun hHeld2 => ?_)
        · (first | (with_reducible exact SD.out) | (with_reducible exact SE.out))
        clear hHeld hK K
        have hHeld := hHeld2
        clear hHeld2
        (try simp only [Act.put, List.setIfInBounds_toArray, List.set_cons_zero, List.set_cons_succ])
        refine takeD (i := 4) (d := 24) (v := ?_) rfl rfl (by kernel_rfl) (by kernel_rfl) (by kernel_rfl) (fun _ _ _ h => h) (Or.inl ⟨by rfl, ?_⟩) (by assumption) ?_
        rotate_left
        · intro w hSw
          obtain ⟨⟨z0, z1, z2, z3, z4⟩, q0, q1, q2⟩ := hSw
          go_simp
          (try with_reducible rfl)
        (try simp only [Act.put, List.setIfInBounds_toArray, List.set_cons_zero, List.set_cons_succ])
        refine wpAnyH_done (by kernel_rfl) ?_ _
        clear hHeld
        go_wp2_with fail
        go_roundw
        case rel => exact ⟨n + 1, by go_num, by omega, HBE.out, Lib.hid (fun i hi => by
          by_cases h : i < n
          · exact HN.out i h
          · obtain rfl : i = n := by omega
            exact HD.out.symm)⟩
        case measure => simp [intOf]; omega
      · have h0 := hcc
        simp only at  h0
        clear HCC
        obtain rfl : ok = false := by
          cases ok
          · rfl
          · have h := HOK.out.1 rfl n hlt
            rw [← HD.out] at h
            unfold ptrC at h
            cases h
            exact absurd rfl h0
        refine wp_region_held_drew (S := (fun w' => (w'.cell? ⟨Z, 0, none⟩ = some (.int .u8 dh) ∧ w'.cell? ⟨Z, 1, none⟩ = some (.int .u8 db) ∧ w'.cell? ⟨Z, 2, none⟩ = some (.int .i64 dk) ∧ w'.cell? ⟨Z, 3, none⟩ = some (.int .i64 dp) ∧ w'.cell? ⟨Z, 4, none⟩ = some (.int .i64 df)) ∧ (w'.cell? ⟨Q, 0, none⟩ = some (.int .i64 k) ∧ w'.cell? ⟨Q, 1, none⟩ = some (.int .i64 o) ∧ w'.cell? ⟨Q, 2, none⟩ = some (.int .i64 f)))) (by kernel_rfl) (by (first | (with_reducible exact SD.out) | (with_reducible exact SE.out))) (fun hHeld => ?_)
        refine takeD (i := 0) (d := 20) (v := ?_) rfl rfl (by kernel_rfl) (by kernel_rfl) (by kernel_rfl) (fun _ _ _ h => h) (Or.inl ⟨by rfl, ?_⟩) (by assumption) ?_
        rotate_left
        · intro w hSw
          obtain ⟨⟨z0, z1, z2, z3, z4⟩, q0, q1, q2⟩ := hSw
          go_simp
          (try with_reducible rfl)
        (try simp only [Act.put, List.setIfInBounds_toArray, List.set_cons_zero, List.set_cons_succ])
        refine takeD (i := 1) (d := 21) (v := ?_) rfl rfl (by kernel_rfl) (by kernel_rfl) (by kernel_rfl) (fun _ _ _ h => h) (Or.inl ⟨by rfl, ?_⟩) (by assumption) ?_
        rotate_left
        · intro w hSw
          obtain ⟨⟨z0, z1, z2, z3, z4⟩, q0, q1, q2⟩ := hSw
          go_simp
          (try with_reducible rfl)
        (try simp only [Act.put, List.setIfInBounds_toArray, List.set_cons_zero, List.set_cons_succ])
        refine takeD (i := 2) (d := 22) (v := ?_) rfl rfl (by kernel_rfl) (by kernel_rfl) (by kernel_rfl) (fun _ _ _ h => h) (Or.inl ⟨by rfl, ?_⟩) (by assumption) ?_
        rotate_left
        · intro w hSw
          obtain ⟨⟨z0, z1, z2, z3, z4⟩, q0, q1, q2⟩ := hSw
          go_simp
          (try with_reducible rfl)
        (try simp only [Act.put, List.setIfInBounds_toArray, List.set_cons_zero, List.set_cons_succ])
        refine wpAnyH_ready (rs := [3]) (by kernel_rfl) (by simp) ?_
        refine AllReadyH.cons rfl (fun K hK => ?_) AllReadyH.nil
        go_simp
        (with_reducible refine (pointerByte_any k o f n hlt _).mono ?_)
        rintro e w5 ⟨rfl, hb5⟩
        have HB5 := Lib.hid hb5
        have HBE : Hid (Below W.heap.size W w5) := Lib.hid (HB4.out.drew.trans (hb5.mono HB4.out.size))
        clear hb5
        have HDD := SE.out
        clear SD SE
        have SD : Hid ((w5.cell? ⟨Z, 0, none⟩ = some (.int .u8 dh) ∧ w5.cell? ⟨Z, 1, none⟩ = some (.int .u8 db) ∧ w5.cell? ⟨Z, 2, none⟩ = some (.int .i64 dk) ∧ w5.cell? ⟨Z, 3, none⟩ = some (.int .i64 dp) ∧ w5.cell? ⟨Z, 4, none⟩ = some (.int .i64 df)) ∧ (w5.cell? ⟨Q, 0, none⟩ = some (.int .i64 k) ∧ w5.cell? ⟨Q, 1, none⟩ = some (.int .i64 o) ∧ w5.cell? ⟨Q, 2, none⟩ = some (.int .i64 f))) := Lib.hid (by
          obtain ⟨⟨z0, z1, z2, z3, z4⟩, q0, q1, q2⟩ := HDD
          exact ⟨⟨by rw [HB5.out.cell (by exact lt_of_cellC z0)]; exact z0, by rw [HB5.out.cell (by exact lt_of_cellC z0)]; exact z1, by rw [HB5.out.cell (by exact lt_of_cellC z0)]; exact z2, by rw [HB5.out.cell (by exact lt_of_cellC z0)]; exact z3, by rw [HB5.out.cell (by exact lt_of_cellC z0)]; exact z4⟩, by rw [HB5.out.cell (by exact lt_of_cellC q0)]; exact q0, by rw [HB5.out.cell (by exact lt_of_cellC q0)]; exact q1, by rw [HB5.out.cell (by exact lt_of_cellC q0)]; exact q2⟩)
        clear HDD
        have SE : Hid ((w5.drew.cell? ⟨Z, 0, none⟩ = some (.int .u8 dh) ∧ w5.drew.cell? ⟨Z, 1, none⟩ = some (.int .u8 db) ∧ w5.drew.cell? ⟨Z, 2, none⟩ = some (.int .i64 dk) ∧ w5.drew.cell? ⟨Z, 3, none⟩ = some (.int .i64 dp) ∧ w5.drew.cell? ⟨Z, 4, none⟩ = some (.int .i64 df)) ∧ (w5.drew.cell? ⟨Q, 0, none⟩ = some (.int .i64 k) ∧ w5.drew.cell? ⟨Q, 1, none⟩ = some (.int .i64 o) ∧ w5.drew.cell? ⟨Q, 2, none⟩ = some (.int .i64 f))) := Lib.hid SD.out
        refine hK.out _ _ ?_ (fun hHeld2 => ?_)
        · (first | (with_reducible exact SD.out) | (with_reducible exact SE.out))
        clear hHeld hK K
        have hHeld := hHeld2
        clear hHeld2
        (try simp only [Act.put, List.setIfInBounds_toArray, List.set_cons_zero, List.set_cons_succ])
        refine takeD (i := 4) (d := 24) (v := ?_) rfl rfl (by kernel_rfl) (by kernel_rfl) (by kernel_rfl) (fun _ _ _ h => h) (Or.inl ⟨by rfl, ?_⟩) (by assumption) ?_
        rotate_left
        · intro w hSw
          obtain ⟨⟨z0, z1, z2, z3, z4⟩, q0, q1, q2⟩ := hSw
          go_simp
          (try with_reducible rfl)
        (try simp only [Act.put, List.setIfInBounds_toArray, List.set_cons_zero, List.set_cons_succ])
        refine wpAnyH_done (by kernel_rfl) ?_ _
        clear hHeld
        obtain ⟨y0, y1, y2, y3, y4, z⟩ := HY.out
        have hVl := HSW.out.2.1
        have w0 : w5.cell? ⟨V, 0, none⟩ = some (.int .i64 0) := by rw [HBE.out.cell (by exact hVl)]; exact y0
        have w1 : w5.cell? ⟨V, 1, none⟩ = some (.int .i64 0) := by rw [HBE.out.cell (by exact hVl)]; exact y1
        have w2 : w5.cell? ⟨V, 2, none⟩ = some (.int .i64 0) := by rw [HBE.out.cell (by exact hVl)]; exact y2
        have w3 : w5.cell? ⟨V, 3, none⟩ = some (.int .i64 0) := by rw [HBE.out.cell (by exact hVl)]; exact y3
        have w4 : w5.cell? ⟨V, 4, none⟩ = some (.bool false) := by rw [HBE.out.cell (by exact hVl)]; exact y4
        have v0 : w5.frozen? ⟨V, 0, none⟩ = false := by rw [HBE.out.frozen (by exact hVl)]; exact z 0
        have v1 : w5.frozen? ⟨V, 1, none⟩ = false := by rw [HBE.out.frozen (by exact hVl)]; exact z 1
        have v2 : w5.frozen? ⟨V, 2, none⟩ = false := by rw [HBE.out.frozen (by exact hVl)]; exact z 2
        have v3 : w5.frozen? ⟨V, 3, none⟩ = false := by rw [HBE.out.frozen (by exact hVl)]; exact z 3
        have v4 : w5.frozen? ⟨V, 4, none⟩ = false := by rw [HBE.out.frozen (by exact hVl)]; exact z 4
        have hwV : w.heap.size ≤ V := HSW.out.2.2.2.1
        clear y0 y1 y2 y3 y4 z SD SE
        go_wp2_with fail
        have hbv : Below w.heap.size w w5 := HBW.out.trans (HBE.out.mono HBW.out.size)
        refine bodyPost_ret (v := .tuple #[numV 0, .bool false]) ?_ rfl ⟨rfl, ?_⟩
        · simp [results, Try.results47, go_sem, numV, w0, w1, w2, w3, w4]
        · ((repeat (first | (with_reducible exact hbv) | (with_reducible apply Below.setCell) | (with_reducible apply Below.alloc) | (with_reducible apply Below.drew))) <;> first | omega | (simp <;> omega))
      · obtain ⟨e0, h0⟩ := hcc
        simp only at e0 h0
        clear HCC
        obtain rfl : ok = false := by
          cases ok
          · rfl
          · have h := HOK.out.1 rfl n hlt
            rw [← HD.out] at h
            unfold ptrC at h
            cases h
            exact absurd rfl h0
        have e0' := e0.symm
        clear e0
        subst e0'
        refine wp_region_held_drew (S := (fun w' => (w'.cell? ⟨Z, 0, none⟩ = some (.int .u8 2) ∧ w'.cell? ⟨Z, 1, none⟩ = some (.int .u8 db) ∧ w'.cell? ⟨Z, 2, none⟩ = some (.int .i64 dk) ∧ w'.cell? ⟨Z, 3, none⟩ = some (.int .i64 dp) ∧ w'.cell? ⟨Z, 4, none⟩ = some (.int .i64 df)) ∧ (w'.cell? ⟨Q, 0, none⟩ = some (.int .i64 k) ∧ w'.cell? ⟨Q, 1, none⟩ = some (.int .i64 o) ∧ w'.cell? ⟨Q, 2, none⟩ = some (.int .i64 f)))) (by kernel_rfl) (by (first | (with_reducible exact SD.out) | (with_reducible exact SE.out))) (fun hHeld => ?_)
        refine takeD (i := 0) (d := 20) (v := ?_) rfl rfl (by kernel_rfl) (by kernel_rfl) (by kernel_rfl) (fun _ _ _ h => h) (Or.inl ⟨by rfl, ?_⟩) (by assumption) ?_
        rotate_left
        · intro w hSw
          obtain ⟨⟨z0, z1, z2, z3, z4⟩, q0, q1, q2⟩ := hSw
          go_simp
          (try with_reducible rfl)
        (try simp only [Act.put, List.setIfInBounds_toArray, List.set_cons_zero, List.set_cons_succ])
        refine takeD (i := 1) (d := 21) (v := ?_) rfl rfl (by kernel_rfl) (by kernel_rfl) (by kernel_rfl) (fun _ _ _ h => h) (Or.inl ⟨by rfl, ?_⟩) (by assumption) ?_
        rotate_left
        · intro w hSw
          obtain ⟨⟨z0, z1, z2, z3, z4⟩, q0, q1, q2⟩ := hSw
          go_simp
          (try with_reducible rfl)
        (try simp only [Act.put, List.setIfInBounds_toArray, List.set_cons_zero, List.set_cons_succ])
        refine takeD (i := 2) (d := 22) (v := ?_) rfl rfl (by kernel_rfl) (by kernel_rfl) (by kernel_rfl) (fun _ _ _ h => h) (Or.inl ⟨by rfl, ?_⟩) (by assumption) ?_
        rotate_left
        · intro w hSw
          obtain ⟨⟨z0, z1, z2, z3, z4⟩, q0, q1, q2⟩ := hSw
          go_simp
          (try with_reducible rfl)
        (try simp only [Act.put, List.setIfInBounds_toArray, List.set_cons_zero, List.set_cons_succ])
        refine wpAnyH_ready (rs := [3]) (by kernel_rfl) (by simp) ?_
        refine AllReadyH.cons rfl (fun K hK => ?_) AllReadyH.nil
        go_simp
        (with_reducible refine (pointerByte_any k o f n hlt _).mono ?_)
        rintro e w5 ⟨rfl, hb5⟩
        have HB5 := Lib.hid hb5
        have HBE : Hid (Below W.heap.size W w5) := Lib.hid (HB4.out.drew.trans (hb5.mono HB4.out.size))
        clear hb5
        have HDD := SE.out
        clear SD SE
        have SD : Hid ((w5.cell? ⟨Z, 0, none⟩ = some (.int .u8 2) ∧ w5.cell? ⟨Z, 1, none⟩ = some (.int .u8 db) ∧ w5.cell? ⟨Z, 2, none⟩ = some (.int .i64 dk) ∧ w5.cell? ⟨Z, 3, none⟩ = some (.int .i64 dp) ∧ w5.cell? ⟨Z, 4, none⟩ = some (.int .i64 df)) ∧ (w5.cell? ⟨Q, 0, none⟩ = some (.int .i64 k) ∧ w5.cell? ⟨Q, 1, none⟩ = some (.int .i64 o) ∧ w5.cell? ⟨Q, 2, none⟩ = some (.int .i64 f))) := Lib.hid (by
          obtain ⟨⟨z0, z1, z2, z3, z4⟩, q0, q1, q2⟩ := HDD
          exact ⟨⟨by rw [HB5.out.cell (by exact lt_of_cellC z0)]; exact z0, by rw [HB5.out.cell (by exact lt_of_cellC z0)]; exact z1, by rw [HB5.out.cell (by exact lt_of_cellC z0)]; exact z2, by rw [HB5.out.cell (by exact lt_of_cellC z0)]; exact z3, by rw [HB5.out.cell (by exact lt_of_cellC z0)]; exact z4⟩, by rw [HB5.out.cell (by exact lt_of_cellC q0)]; exact q0, by rw [HB5.out.cell (by exact lt_of_cellC q0)]; exact q1, by rw [HB5.out.cell (by exact lt_of_cellC q0)]; exact q2⟩)
        clear HDD
        have SE : Hid ((w5.drew.cell? ⟨Z, 0, none⟩ = some (.int .u8 2) ∧ w5.drew.cell? ⟨Z, 1, none⟩ = some (.int .u8 db) ∧ w5.drew.cell? ⟨Z, 2, none⟩ = some (.int .i64 dk) ∧ w5.drew.cell? ⟨Z, 3, none⟩ = some (.int .i64 dp) ∧ w5.drew.cell? ⟨Z, 4, none⟩ = some (.int .i64 df)) ∧ (w5.drew.cell? ⟨Q, 0, none⟩ = some (.int .i64 k) ∧ w5.drew.cell? ⟨Q, 1, none⟩ = some (.int .i64 o) ∧ w5.drew.cell? ⟨Q, 2, none⟩ = some (.int .i64 f))) := Lib.hid SD.out
        refine hK.out _ _ ?_ (fun hHeld2 => ?_)
        · (first | (with_reducible exact SD.out) | (with_reducible exact SE.out))
        clear hHeld hK K
        have hHeld := hHeld2
        clear hHeld2
        (try simp only [Act.put, List.setIfInBounds_toArray, List.set_cons_zero, List.set_cons_succ])
        refine takeD (i := 4) (d := 24) (v := ?_) rfl rfl (by kernel_rfl) (by kernel_rfl) (by kernel_rfl) (fun _ _ _ h => h) (Or.inl ⟨by rfl, ?_⟩) (by assumption) ?_
        rotate_left
        · intro w hSw
          obtain ⟨⟨z0, z1, z2, z3, z4⟩, q0, q1, q2⟩ := hSw
          go_simp
          (try with_reducible rfl)
        (try simp only [Act.put, List.setIfInBounds_toArray, List.set_cons_zero, List.set_cons_succ])
        refine wpAnyH_done (by kernel_rfl) ?_ _
        clear hHeld
        obtain ⟨y0, y1, y2, y3, y4, z⟩ := HY.out
        have hVl := HSW.out.2.1
        have w0 : w5.cell? ⟨V, 0, none⟩ = some (.int .i64 0) := by rw [HBE.out.cell (by exact hVl)]; exact y0
        have w1 : w5.cell? ⟨V, 1, none⟩ = some (.int .i64 0) := by rw [HBE.out.cell (by exact hVl)]; exact y1
        have w2 : w5.cell? ⟨V, 2, none⟩ = some (.int .i64 0) := by rw [HBE.out.cell (by exact hVl)]; exact y2
        have w3 : w5.cell? ⟨V, 3, none⟩ = some (.int .i64 0) := by rw [HBE.out.cell (by exact hVl)]; exact y3
        have w4 : w5.cell? ⟨V, 4, none⟩ = some (.bool false) := by rw [HBE.out.cell (by exact hVl)]; exact y4
        have v0 : w5.frozen? ⟨V, 0, none⟩ = false := by rw [HBE.out.frozen (by exact hVl)]; exact z 0
        have v1 : w5.frozen? ⟨V, 1, none⟩ = false := by rw [HBE.out.frozen (by exact hVl)]; exact z 1
        have v2 : w5.frozen? ⟨V, 2, none⟩ = false := by rw [HBE.out.frozen (by exact hVl)]; exact z 2
        have v3 : w5.frozen? ⟨V, 3, none⟩ = false := by rw [HBE.out.frozen (by exact hVl)]; exact z 3
        have v4 : w5.frozen? ⟨V, 4, none⟩ = false := by rw [HBE.out.frozen (by exact hVl)]; exact z 4
        have hwV : w.heap.size ≤ V := HSW.out.2.2.2.1
        clear y0 y1 y2 y3 y4 z SD SE
        go_wp2_with fail
        have hbv : Below w.heap.size w w5 := HBW.out.trans (HBE.out.mono HBW.out.size)
        refine bodyPost_ret (v := .tuple #[numV 0, .bool false]) ?_ rfl ⟨rfl, ?_⟩
        · simp [results, Try.results47, go_sem, numV, w0, w1, w2, w3, w4]
        · ((repeat (first | (with_reducible exact hbv) | (with_reducible apply Below.setCell) | (with_reducible apply Below.alloc) | (with_reducible apply Below.drew))) <;> first | omega | (simp <;> omega))
      · obtain ⟨e0, e1, h0⟩ := hcc
        simp only at e0 e1 h0
        clear HCC
        obtain rfl : ok = false := by
          cases ok
          · rfl
          · have h := HOK.out.1 rfl n hlt
            rw [← HD.out] at h
            unfold ptrC at h
            cases h
            exact absurd rfl h0
        have e0' := e0.symm
        clear e0
        subst e0'
        have e1' := e1.symm
        clear e1
        subst e1'
        refine wp_region_held_drew (S := (fun w' => (w'.cell? ⟨Z, 0, none⟩ = some (.int .u8 2) ∧ w'.cell? ⟨Z, 1, none⟩ = some (.int .u8 (n : Int)) ∧ w'.cell? ⟨Z, 2, none⟩ = some (.int .i64 dk) ∧ w'.cell? ⟨Z, 3, none⟩ = some (.int .i64 dp) ∧ w'.cell? ⟨Z, 4, none⟩ = some (.int .i64 df)) ∧ (w'.cell? ⟨Q, 0, none⟩ = some (.int .i64 k) ∧ w'.cell? ⟨Q, 1, none⟩ = some (.int .i64 o) ∧ w'.cell? ⟨Q, 2, none⟩ = some (.int .i64 f)))) (by kernel_rfl) (by (first | (with_reducible exact SD.out) | (with_reducible exact SE.out))) (fun hHeld => ?_)
        refine takeD (i := 0) (d := 20) (v := ?_) rfl rfl (by kernel_rfl) (by kernel_rfl) (by kernel_rfl) (fun _ _ _ h => h) (Or.inl ⟨by rfl, ?_⟩) (by assumption) ?_
        rotate_left
        · intro w hSw
          obtain ⟨⟨z0, z1, z2, z3, z4⟩, q0, q1, q2⟩ := hSw
          go_simp
          (try with_reducible rfl)
        (try simp only [Act.put, List.setIfInBounds_toArray, List.set_cons_zero, List.set_cons_succ])
        refine takeD (i := 1) (d := 21) (v := ?_) rfl rfl (by kernel_rfl) (by kernel_rfl) (by kernel_rfl) (fun _ _ _ h => h) (Or.inl ⟨by rfl, ?_⟩) (by assumption) ?_
        rotate_left
        · intro w hSw
          obtain ⟨⟨z0, z1, z2, z3, z4⟩, q0, q1, q2⟩ := hSw
          go_simp
          (try with_reducible rfl)
        (try simp only [Act.put, List.setIfInBounds_toArray, List.set_cons_zero, List.set_cons_succ])
        refine takeD (i := 2) (d := 22) (v := ?_) rfl rfl (by kernel_rfl) (by kernel_rfl) (by kernel_rfl) (fun _ _ _ h => h) (Or.inl ⟨by rfl, ?_⟩) (by assumption) ?_
        rotate_left
        · intro w hSw
          obtain ⟨⟨z0, z1, z2, z3, z4⟩, q0, q1, q2⟩ := hSw
          go_simp
          (try with_reducible rfl)
        (try simp only [Act.put, List.setIfInBounds_toArray, List.set_cons_zero, List.set_cons_succ])
        refine wpAnyH_ready (rs := [3]) (by kernel_rfl) (by simp) ?_
        refine AllReadyH.cons rfl (fun K hK => ?_) AllReadyH.nil
        go_simp
        (with_reducible refine (pointerByte_any k o f n hlt _).mono ?_)
        rintro e w5 ⟨rfl, hb5⟩
        have HB5 := Lib.hid hb5
        have HBE : Hid (Below W.heap.size W w5) := Lib.hid (HB4.out.drew.trans (hb5.mono HB4.out.size))
        clear hb5
        have HDD := SE.out
        clear SD SE
        have SD : Hid ((w5.cell? ⟨Z, 0, none⟩ = some (.int .u8 2) ∧ w5.cell? ⟨Z, 1, none⟩ = some (.int .u8 (n : Int)) ∧ w5.cell? ⟨Z, 2, none⟩ = some (.int .i64 dk) ∧ w5.cell? ⟨Z, 3, none⟩ = some (.int .i64 dp) ∧ w5.cell? ⟨Z, 4, none⟩ = some (.int .i64 df)) ∧ (w5.cell? ⟨Q, 0, none⟩ = some (.int .i64 k) ∧ w5.cell? ⟨Q, 1, none⟩ = some (.int .i64 o) ∧ w5.cell? ⟨Q, 2, none⟩ = some (.int .i64 f))) := Lib.hid (by
          obtain ⟨⟨z0, z1, z2, z3, z4⟩, q0, q1, q2⟩ := HDD
          exact ⟨⟨by rw [HB5.out.cell (by exact lt_of_cellC z0)]; exact z0, by rw [HB5.out.cell (by exact lt_of_cellC z0)]; exact z1, by rw [HB5.out.cell (by exact lt_of_cellC z0)]; exact z2, by rw [HB5.out.cell (by exact lt_of_cellC z0)]; exact z3, by rw [HB5.out.cell (by exact lt_of_cellC z0)]; exact z4⟩, by rw [HB5.out.cell (by exact lt_of_cellC q0)]; exact q0, by rw [HB5.out.cell (by exact lt_of_cellC q0)]; exact q1, by rw [HB5.out.cell (by exact lt_of_cellC q0)]; exact q2⟩)
        clear HDD
        have SE : Hid ((w5.drew.cell? ⟨Z, 0, none⟩ = some (.int .u8 2) ∧ w5.drew.cell? ⟨Z, 1, none⟩ = some (.int .u8 (n : Int)) ∧ w5.drew.cell? ⟨Z, 2, none⟩ = some (.int .i64 dk) ∧ w5.drew.cell? ⟨Z, 3, none⟩ = some (.int .i64 dp) ∧ w5.drew.cell? ⟨Z, 4, none⟩ = some (.int .i64 df)) ∧ (w5.drew.cell? ⟨Q, 0, none⟩ = some (.int .i64 k) ∧ w5.drew.cell? ⟨Q, 1, none⟩ = some (.int .i64 o) ∧ w5.drew.cell? ⟨Q, 2, none⟩ = some (.int .i64 f))) := Lib.hid SD.out
        refine hK.out _ _ ?_ (fun hHeld2 => ?_)
        · (first | (with_reducible exact SD.out) | (with_reducible exact SE.out))
        clear hHeld hK K
        have hHeld := hHeld2
        clear hHeld2
        (try simp only [Act.put, List.setIfInBounds_toArray, List.set_cons_zero, List.set_cons_succ])
        refine takeD (i := 4) (d := 24) (v := ?_) rfl rfl (by kernel_rfl) (by kernel_rfl) (by kernel_rfl) (fun _ _ _ h => h) (Or.inl ⟨by rfl, ?_⟩) (by assumption) ?_
        rotate_left
        · intro w hSw
          obtain ⟨⟨z0, z1, z2, z3, z4⟩, q0, q1, q2⟩ := hSw
          go_simp
          (try with_reducible rfl)
        (try simp only [Act.put, List.setIfInBounds_toArray, List.set_cons_zero, List.set_cons_succ])
        refine wpAnyH_done (by kernel_rfl) ?_ _
        clear hHeld
        obtain ⟨y0, y1, y2, y3, y4, z⟩ := HY.out
        have hVl := HSW.out.2.1
        have w0 : w5.cell? ⟨V, 0, none⟩ = some (.int .i64 0) := by rw [HBE.out.cell (by exact hVl)]; exact y0
        have w1 : w5.cell? ⟨V, 1, none⟩ = some (.int .i64 0) := by rw [HBE.out.cell (by exact hVl)]; exact y1
        have w2 : w5.cell? ⟨V, 2, none⟩ = some (.int .i64 0) := by rw [HBE.out.cell (by exact hVl)]; exact y2
        have w3 : w5.cell? ⟨V, 3, none⟩ = some (.int .i64 0) := by rw [HBE.out.cell (by exact hVl)]; exact y3
        have w4 : w5.cell? ⟨V, 4, none⟩ = some (.bool false) := by rw [HBE.out.cell (by exact hVl)]; exact y4
        have v0 : w5.frozen? ⟨V, 0, none⟩ = false := by rw [HBE.out.frozen (by exact hVl)]; exact z 0
        have v1 : w5.frozen? ⟨V, 1, none⟩ = false := by rw [HBE.out.frozen (by exact hVl)]; exact z 1
        have v2 : w5.frozen? ⟨V, 2, none⟩ = false := by rw [HBE.out.frozen (by exact hVl)]; exact z 2
        have v3 : w5.frozen? ⟨V, 3, none⟩ = false := by rw [HBE.out.frozen (by exact hVl)]; exact z 3
        have v4 : w5.frozen? ⟨V, 4, none⟩ = false := by rw [HBE.out.frozen (by exact hVl)]; exact z 4
        have hwV : w.heap.size ≤ V := HSW.out.2.2.2.1
        clear y0 y1 y2 y3 y4 z SD SE
        go_wp2_with fail
        have hbv : Below w.heap.size w w5 := HBW.out.trans (HBE.out.mono HBW.out.size)
        refine bodyPost_ret (v := .tuple #[numV 0, .bool false]) ?_ rfl ⟨rfl, ?_⟩
        · simp [results, Try.results47, go_sem, numV, w0, w1, w2, w3, w4]
        · ((repeat (first | (with_reducible exact hbv) | (with_reducible apply Below.setCell) | (with_reducible apply Below.alloc) | (with_reducible apply Below.drew))) <;> first | omega | (simp <;> omega))
      · obtain ⟨e0, e1, e2, h0⟩ := hcc
        simp only at e0 e1 e2 h0
        clear HCC
        obtain rfl : ok = false := by
          cases ok
          · rfl
          · have h := HOK.out.1 rfl n hlt
            rw [← HD.out] at h
            unfold ptrC at h
            cases h
            exact absurd rfl h0
        have e0' := e0.symm
        clear e0
        subst e0'
        have e1' := e1.symm
        clear e1
        subst e1'
        have e2' := e2.symm
        clear e2
        subst e2'
        refine wp_region_held_drew (S := (fun w' => (w'.cell? ⟨Z, 0, none⟩ = some (.int .u8 2) ∧ w'.cell? ⟨Z, 1, none⟩ = some (.int .u8 (n : Int)) ∧ w'.cell? ⟨Z, 2, none⟩ = some (.int .i64 k) ∧ w'.cell? ⟨Z, 3, none⟩ = some (.int .i64 dp) ∧ w'.cell? ⟨Z, 4, none⟩ = some (.int .i64 df)) ∧ (w'.cell? ⟨Q, 0, none⟩ = some (.int .i64 k) ∧ w'.cell? ⟨Q, 1, none⟩ = some (.int .i64 o) ∧ w'.cell? ⟨Q, 2, none⟩ = some (.int .i64 f)))) (by kernel_rfl) (by (first | (with_reducible exact SD.out) | (with_reducible exact SE.out))) (fun hHeld => ?_)
        refine takeD (i := 0) (d := 20) (v := ?_) rfl rfl (by kernel_rfl) (by kernel_rfl) (by kernel_rfl) (fun _ _ _ h => h) (Or.inl ⟨by rfl, ?_⟩) (by assumption) ?_
        rotate_left
        · intro w hSw
          obtain ⟨⟨z0, z1, z2, z3, z4⟩, q0, q1, q2⟩ := hSw
          go_simp
          (try with_reducible rfl)
        (try simp only [Act.put, List.setIfInBounds_toArray, List.set_cons_zero, List.set_cons_succ])
        refine takeD (i := 1) (d := 21) (v := ?_) rfl rfl (by kernel_rfl) (by kernel_rfl) (by kernel_rfl) (fun _ _ _ h => h) (Or.inl ⟨by rfl, ?_⟩) (by assumption) ?_
        rotate_left
        · intro w hSw
          obtain ⟨⟨z0, z1, z2, z3, z4⟩, q0, q1, q2⟩ := hSw
          go_simp
          (try with_reducible rfl)
        (try simp only [Act.put, List.setIfInBounds_toArray, List.set_cons_zero, List.set_cons_succ])
        refine takeD (i := 2) (d := 22) (v := ?_) rfl rfl (by kernel_rfl) (by kernel_rfl) (by kernel_rfl) (fun _ _ _ h => h) (Or.inl ⟨by rfl, ?_⟩) (by assumption) ?_
        rotate_left
        · intro w hSw
          obtain ⟨⟨z0, z1, z2, z3, z4⟩, q0, q1, q2⟩ := hSw
          go_simp
          (try with_reducible rfl)
        (try simp only [Act.put, List.setIfInBounds_toArray, List.set_cons_zero, List.set_cons_succ])
        refine wpAnyH_ready (rs := [3]) (by kernel_rfl) (by simp) ?_
        refine AllReadyH.cons rfl (fun K hK => ?_) AllReadyH.nil
        go_simp
        (with_reducible refine (pointerByte_any k o f n hlt _).mono ?_)
        rintro e w5 ⟨rfl, hb5⟩
        have HB5 := Lib.hid hb5
        have HBE : Hid (Below W.heap.size W w5) := Lib.hid (HB4.out.drew.trans (hb5.mono HB4.out.size))
        clear hb5
        have HDD := SE.out
        clear SD SE
        have SD : Hid ((w5.cell? ⟨Z, 0, none⟩ = some (.int .u8 2) ∧ w5.cell? ⟨Z, 1, none⟩ = some (.int .u8 (n : Int)) ∧ w5.cell? ⟨Z, 2, none⟩ = some (.int .i64 k) ∧ w5.cell? ⟨Z, 3, none⟩ = some (.int .i64 dp) ∧ w5.cell? ⟨Z, 4, none⟩ = some (.int .i64 df)) ∧ (w5.cell? ⟨Q, 0, none⟩ = some (.int .i64 k) ∧ w5.cell? ⟨Q, 1, none⟩ = some (.int .i64 o) ∧ w5.cell? ⟨Q, 2, none⟩ = some (.int .i64 f))) := Lib.hid (by
          obtain ⟨⟨z0, z1, z2, z3, z4⟩, q0, q1, q2⟩ := HDD
          exact ⟨⟨by rw [HB5.out.cell (by exact lt_of_cellC z0)]; exact z0, by rw [HB5.out.cell (by exact lt_of_cellC z0)]; exact z1, by rw [HB5.out.cell (by exact lt_of_cellC z0)]; exact z2, by rw [HB5.out.cell (by exact lt_of_cellC z0)]; exact z3, by rw [HB5.out.cell (by exact lt_of_cellC z0)]; exact z4⟩, by rw [HB5.out.cell (by exact lt_of_cellC q0)]; exact q0, by rw [HB5.out.cell (by exact lt_of_cellC q0)]; exact q1, by rw [HB5.out.cell (by exact lt_of_cellC q0)]; exact q2⟩)
        clear HDD
        have SE : Hid ((w5.drew.cell? ⟨Z, 0, none⟩ = some (.int .u8 2) ∧ w5.drew.cell? ⟨Z, 1, none⟩ = some (.int .u8 (n : Int)) ∧ w5.drew.cell? ⟨Z, 2, none⟩ = some (.int .i64 k) ∧ w5.drew.cell? ⟨Z, 3, none⟩ = some (.int .i64 dp) ∧ w5.drew.cell? ⟨Z, 4, none⟩ = some (.int .i64 df)) ∧ (w5.drew.cell? ⟨Q, 0, none⟩ = some (.int .i64 k) ∧ w5.drew.cell? ⟨Q, 1, none⟩ = some (.int .i64 o) ∧ w5.drew.cell? ⟨Q, 2, none⟩ = some (.int .i64 f))) := Lib.hid SD.out
        refine hK.out _ _ ?_ (fun hHeld2 => ?_)
        · (first | (with_reducible exact SD.out) | (with_reducible exact SE.out))
        clear hHeld hK K
        have hHeld := hHeld2
        clear hHeld2
        (try simp only [Act.put, List.setIfInBounds_toArray, List.set_cons_zero, List.set_cons_succ])
        refine takeD (i := 4) (d := 24) (v := ?_) rfl rfl (by kernel_rfl) (by kernel_rfl) (by kernel_rfl) (fun _ _ _ h => h) (Or.inl ⟨by rfl, ?_⟩) (by assumption) ?_
        rotate_left
        · intro w hSw
          obtain ⟨⟨z0, z1, z2, z3, z4⟩, q0, q1, q2⟩ := hSw
          go_simp
          (try with_reducible rfl)
        (try simp only [Act.put, List.setIfInBounds_toArray, List.set_cons_zero, List.set_cons_succ])
        refine wpAnyH_done (by kernel_rfl) ?_ _
        clear hHeld
        obtain ⟨y0, y1, y2, y3, y4, z⟩ := HY.out
        have hVl := HSW.out.2.1
        have w0 : w5.cell? ⟨V, 0, none⟩ = some (.int .i64 0) := by rw [HBE.out.cell (by exact hVl)]; exact y0
        have w1 : w5.cell? ⟨V, 1, none⟩ = some (.int .i64 0) := by rw [HBE.out.cell (by exact hVl)]; exact y1
        have w2 : w5.cell? ⟨V, 2, none⟩ = some (.int .i64 0) := by rw [HBE.out.cell (by exact hVl)]; exact y2
        have w3 : w5.cell? ⟨V, 3, none⟩ = some (.int .i64 0) := by rw [HBE.out.cell (by exact hVl)]; exact y3
        have w4 : w5.cell? ⟨V, 4, none⟩ = some (.bool false) := by rw [HBE.out.cell (by exact hVl)]; exact y4
        have v0 : w5.frozen? ⟨V, 0, none⟩ = false := by rw [HBE.out.frozen (by exact hVl)]; exact z 0
        have v1 : w5.frozen? ⟨V, 1, none⟩ = false := by rw [HBE.out.frozen (by exact hVl)]; exact z 1
        have v2 : w5.frozen? ⟨V, 2, none⟩ = false := by rw [HBE.out.frozen (by exact hVl)]; exact z 2
        have v3 : w5.frozen? ⟨V, 3, none⟩ = false := by rw [HBE.out.frozen (by exact hVl)]; exact z 3
        have v4 : w5.frozen? ⟨V, 4, none⟩ = false := by rw [HBE.out.frozen (by exact hVl)]; exact z 4
        have hwV : w.heap.size ≤ V := HSW.out.2.2.2.1
        clear y0 y1 y2 y3 y4 z SD SE
        go_wp2_with fail
        have hbv : Below w.heap.size w w5 := HBW.out.trans (HBE.out.mono HBW.out.size)
        refine bodyPost_ret (v := .tuple #[numV 0, .bool false]) ?_ rfl ⟨rfl, ?_⟩
        · simp [results, Try.results47, go_sem, numV, w0, w1, w2, w3, w4]
        · ((repeat (first | (with_reducible exact hbv) | (with_reducible apply Below.setCell) | (with_reducible apply Below.alloc) | (with_reducible apply Below.drew))) <;> first | omega | (simp <;> omega))
      · obtain ⟨e0, e1, e2, e3, h0⟩ := hcc
        simp only at e0 e1 e2 e3 h0
        clear HCC
        obtain rfl : ok = false := by
          cases ok
          · rfl
          · have h := HOK.out.1 rfl n hlt
            rw [← HD.out] at h
            unfold ptrC at h
            cases h
            exact absurd rfl h0
        have e0' := e0.symm
        clear e0
        subst e0'
        have e1' := e1.symm
        clear e1
        subst e1'
        have e2' := e2.symm
        clear e2
        subst e2'
        have e3' := e3.symm
        clear e3
        subst e3'
        refine wp_region_held_drew (S := (fun w' => (w'.cell? ⟨Z, 0, none⟩ = some (.int .u8 2) ∧ w'.cell? ⟨Z, 1, none⟩ = some (.int .u8 (n : Int)) ∧ w'.cell? ⟨Z, 2, none⟩ = some (.int .i64 k) ∧ w'.cell? ⟨Z, 3, none⟩ = some (.int .i64 o) ∧ w'.cell? ⟨Z, 4, none⟩ = some (.int .i64 df)) ∧ (w'.cell? ⟨Q, 0, none⟩ = some (.int .i64 k) ∧ w'.cell? ⟨Q, 1, none⟩ = some (.int .i64 o) ∧ w'.cell? ⟨Q, 2, none⟩ = some (.int .i64 f)))) (by kernel_rfl) (by (first | (with_reducible exact SD.out) | (with_reducible exact SE.out))) (fun hHeld => ?_)
        refine takeD (i := 0) (d := 20) (v := ?_) rfl rfl (by kernel_rfl) (by kernel_rfl) (by kernel_rfl) (fun _ _ _ h => h) (Or.inl ⟨by rfl, ?_⟩) (by assumption) ?_
        rotate_left
        · intro w hSw
          obtain ⟨⟨z0, z1, z2, z3, z4⟩, q0, q1, q2⟩ := hSw
          go_simp
          (try with_reducible rfl)
        (try simp only [Act.put, List.setIfInBounds_toArray, List.set_cons_zero, List.set_cons_succ])
        refine takeD (i := 1) (d := 21) (v := ?_) rfl rfl (by kernel_rfl) (by kernel_rfl) (by kernel_rfl) (fun _ _ _ h => h) (Or.inl ⟨by rfl, ?_⟩) (by assumption) ?_
        rotate_left
        · intro w hSw
          obtain ⟨⟨z0, z1, z2, z3, z4⟩, q0, q1, q2⟩ := hSw
          go_simp
          (try with_reducible rfl)
        (try simp only [Act.put, List.setIfInBounds_toArray, List.set_cons_zero, List.set_cons_succ])
        refine takeD (i := 2) (d := 22) (v := ?_) rfl rfl (by kernel_rfl) (by kernel_rfl) (by kernel_rfl) (fun _ _ _ h => h) (Or.inl ⟨by rfl, ?_⟩) (by assumption) ?_
        rotate_left
        · intro w hSw
          obtain ⟨⟨z0, z1, z2, z3, z4⟩, q0, q1, q2⟩ := hSw
          go_simp
          (try with_reducible rfl)
        (try simp only [Act.put, List.setIfInBounds_toArray, List.set_cons_zero, List.set_cons_succ])
        refine wpAnyH_ready (rs := [3]) (by kernel_rfl) (by simp) ?_
        refine AllReadyH.cons rfl (fun K hK => ?_) AllReadyH.nil
        go_simp
        (with_reducible refine (pointerByte_any k o f n hlt _).mono ?_)
        rintro e w5 ⟨rfl, hb5⟩
        have HB5 := Lib.hid hb5
        have HBE : Hid (Below W.heap.size W w5) := Lib.hid (HB4.out.drew.trans (hb5.mono HB4.out.size))
        clear hb5
        have HDD := SE.out
        clear SD SE
        have SD : Hid ((w5.cell? ⟨Z, 0, none⟩ = some (.int .u8 2) ∧ w5.cell? ⟨Z, 1, none⟩ = some (.int .u8 (n : Int)) ∧ w5.cell? ⟨Z, 2, none⟩ = some (.int .i64 k) ∧ w5.cell? ⟨Z, 3, none⟩ = some (.int .i64 o) ∧ w5.cell? ⟨Z, 4, none⟩ = some (.int .i64 df)) ∧ (w5.cell? ⟨Q, 0, none⟩ = some (.int .i64 k) ∧ w5.cell? ⟨Q, 1, none⟩ = some (.int .i64 o) ∧ w5.cell? ⟨Q, 2, none⟩ = some (.int .i64 f))) := Lib.hid (by
          obtain ⟨⟨z0, z1, z2, z3, z4⟩, q0, q1, q2⟩ := HDD
          exact ⟨⟨by rw [HB5.out.cell (by exact lt_of_cellC z0)]; exact z0, by rw [HB5.out.cell (by exact lt_of_cellC z0)]; exact z1, by rw [HB5.out.cell (by exact lt_of_cellC z0)]; exact z2, by rw [HB5.out.cell (by exact lt_of_cellC z0)]; exact z3, by rw [HB5.out.cell (by exact lt_of_cellC z0)]; exact z4⟩, by rw [HB5.out.cell (by exact lt_of_cellC q0)]; exact q0, by rw [HB5.out.cell (by exact lt_of_cellC q0)]; exact q1, by rw [HB5.out.cell (by exact lt_of_cellC q0)]; exact q2⟩)
        clear HDD
        have SE : Hid ((w5.drew.cell? ⟨Z, 0, none⟩ = some (.int .u8 2) ∧ w5.drew.cell? ⟨Z, 1, none⟩ = some (.int .u8 (n : Int)) ∧ w5.drew.cell? ⟨Z, 2, none⟩ = some (.int .i64 k) ∧ w5.drew.cell? ⟨Z, 3, none⟩ = some (.int .i64 o) ∧ w5.drew.cell? ⟨Z, 4, none⟩ = some (.int .i64 df)) ∧ (w5.drew.cell? ⟨Q, 0, none⟩ = some (.int .i64 k) ∧ w5.drew.cell? ⟨Q, 1, none⟩ = some (.int .i64 o) ∧ w5.drew.cell? ⟨Q, 2, none⟩ = some (.int .i64 f))) := Lib.hid SD.out
        refine hK.out _ _ ?_ (fun hHeld2 => ?_)
        · (first | (with_reducible exact SD.out) | (with_reducible exact SE.out))
        clear hHeld hK K
        have hHeld := hHeld2
        clear hHeld2
        (try simp only [Act.put, List.setIfInBounds_toArray, List.set_cons_zero, List.set_cons_succ])
        refine takeD (i := 4) (d := 24) (v := ?_) rfl rfl (by kernel_rfl) (by kernel_rfl) (by kernel_rfl) (fun _ _ _ h => h) (Or.inl ⟨by rfl, ?_⟩) (by assumption) ?_
        rotate_left
        · intro w hSw
          obtain ⟨⟨z0, z1, z2, z3, z4⟩, q0, q1, q2⟩ := hSw
          go_simp
          (try with_reducible rfl)
        (try simp only [Act.put, List.setIfInBounds_toArray, List.set_cons_zero, List.set_cons_succ])
        refine wpAnyH_done (by kernel_rfl) ?_ _
        clear hHeld
        obtain ⟨y0, y1, y2, y3, y4, z⟩ := HY.out
        have hVl := HSW.out.2.1
        have w0 : w5.cell? ⟨V, 0, none⟩ = some (.int .i64 0) := by rw [HBE.out.cell (by exact hVl)]; exact y0
        have w1 : w5.cell? ⟨V, 1, none⟩ = some (.int .i64 0) := by rw [HBE.out.cell (by exact hVl)]; exact y1
        have w2 : w5.cell? ⟨V, 2, none⟩ = some (.int .i64 0) := by rw [HBE.out.cell (by exact hVl)]; exact y2
        have w3 : w5.cell? ⟨V, 3, none⟩ = some (.int .i64 0) := by rw [HBE.out.cell (by exact hVl)]; exact y3
        have w4 : w5.cell? ⟨V, 4, none⟩ = some (.bool false) := by rw [HBE.out.cell (by exact hVl)]; exact y4
        have v0 : w5.frozen? ⟨V, 0, none⟩ = false := by rw [HBE.out.frozen (by exact hVl)]; exact z 0
        have v1 : w5.frozen? ⟨V, 1, none⟩ = false := by rw [HBE.out.frozen (by exact hVl)]; exact z 1
        have v2 : w5.frozen? ⟨V, 2, none⟩ = false := by rw [HBE.out.frozen (by exact hVl)]; exact z 2
        have v3 : w5.frozen? ⟨V, 3, none⟩ = false := by rw [HBE.out.frozen (by exact hVl)]; exact z 3
        have v4 : w5.frozen? ⟨V, 4, none⟩ = false := by rw [HBE.out.frozen (by exact hVl)]; exact z 4
        have hwV : w.heap.size ≤ V := HSW.out.2.2.2.1
        clear y0 y1 y2 y3 y4 z SD SE
        go_wp2_with fail
        have hbv : Below w.heap.size w w5 := HBW.out.trans (HBE.out.mono HBW.out.size)
        refine bodyPost_ret (v := .tuple #[numV 0, .bool false]) ?_ rfl ⟨rfl, ?_⟩
        · simp [results, Try.results47, go_sem, numV, w0, w1, w2, w3, w4]
        · ((repeat (first | (with_reducible exact hbv) | (with_reducible apply Below.setCell) | (with_reducible apply Below.alloc) | (with_reducible apply Below.drew))) <;> first | omega | (simp <;> omega))
    · obtain rfl : n = 8 := by omega
      obtain rfl : ok = true := HOK.out.2 HN.out
      obtain ⟨y0, y1, y2, y3, y4, z⟩ := HY.out
      obtain ⟨q0, q1, q2⟩ := HQ.out
      have hVl := HSW.out.2.1
      have hQl := HSW.out.2.2.1
      have w0 : wr.cell? ⟨V, 0, none⟩ = some (.int .i64 0) := by rw [hb.cell (by exact hVl)]; exact y0
      have w1 : wr.cell? ⟨V, 1, none⟩ = some (.int .i64 0) := by rw [hb.cell (by exact hVl)]; exact y1
      have w2 : wr.cell? ⟨V, 2, none⟩ = some (.int .i64 0) := by rw [hb.cell (by exact hVl)]; exact y2
      have w3 : wr.cell? ⟨V, 3, none⟩ = some (.int .i64 0) := by rw [hb.cell (by exact hVl)]; exact y3
      have w4 : wr.cell? ⟨V, 4, none⟩ = some (.bool false) := by rw [hb.cell (by exact hVl)]; exact y4
      have v0 : wr.frozen? ⟨V, 0, none⟩ = false := by rw [hb.frozen (by exact hVl)]; exact z 0
      have v1 : wr.frozen? ⟨V, 1, none⟩ = false := by rw [hb.frozen (by exact hVl)]; exact z 1
      have v2 : wr.frozen? ⟨V, 2, none⟩ = false := by rw [hb.frozen (by exact hVl)]; exact z 2
      have v3 : wr.frozen? ⟨V, 3, none⟩ = false := by rw [hb.frozen (by exact hVl)]; exact z 3
      have v4 : wr.frozen? ⟨V, 4, none⟩ = false := by rw [hb.frozen (by exact hVl)]; exact z 4
      have p0 : wr.cell? ⟨Q, 0, none⟩ = some (.int .i64 k) := by rw [hb.cell (by exact hQl)]; exact q0
      have p1 : wr.cell? ⟨Q, 1, none⟩ = some (.int .i64 o) := by rw [hb.cell (by exact hQl)]; exact q1
      have p2 : wr.cell? ⟨Q, 2, none⟩ = some (.int .i64 f) := by rw [hb.cell (by exact hQl)]; exact q2
      have hwV : w.heap.size ≤ V := HSW.out.2.2.2.1
      have hbv : Below w.heap.size w wr := HBW.out.trans (HB.out.mono HBW.out.size)
      have HBV := Lib.hid hbv
      clear hb y0 y1 y2 y3 y4 q0 q1 q2 z hbv
      go_wp2_with fail
      have hbv := HBV.out
      refine bodyPost_ret (v := .tuple #[pvV k o f, .bool true]) ?_ rfl ⟨rfl, ?_⟩
      · simp [results, Try.results47, go_sem, pvV, w0, w1, w2, w3, w4]
      · ((repeat (first | (with_reducible exact hbv) | (with_reducible apply Below.setCell) | (with_reducible apply Below.alloc) | (with_reducible apply Below.drew))) <;> first | omega | (simp <;> omega))
end Go.Proofs.Ytdkhanjfncbfnaa
