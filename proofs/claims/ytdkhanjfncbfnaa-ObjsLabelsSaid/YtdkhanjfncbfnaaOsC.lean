import Derived.Test.YtdkhanjfncbfnaaOsB
namespace Go.Proofs.Ytdkhanjfncbfnaa
open Go Go.RowKit
set_option linter.unusedVariables false
set_option linter.unusedSimpArgs false

set_option maxRecDepth 100000 in
set_option maxHeartbeats 4000000 in
theorem behind_not (mb pb : Nat) (es : Array MapEntry) (clk : Nat) (o f : Int) (hf : Instr.findNow (.int .i64) (.int .i64 o) es.toList 0 = some none) (w : World)
    (c1 : w.cell? ⟨mb, 1, none⟩ = some (.map (some pb))) (hb : w.heap[pb]? = some (.map es clk)) :
    Calls Try.prog 35 #[.pointer (some ⟨mb, 0, none⟩), ptrV 1 o f] w fun e w' => e = .returned (.tuple #[noObj, .bool false]) ∧ Below w.heap.size w w' := by
  unfold ptrV
  have HLK := Lib.hid (fun (w' : World) (hb : w'.heap[pb]? = some (.map es clk)) => run_look_not w' pb es clk hb o hf true)
  have hmb := World.block_lt_of_cell? w _ c1
  simp at hmb
  have hpb : pb < w.heap.size := (Array.getElem?_eq_some_iff.1 hb).1
  go_enter Try.func35, Try.ntmps35
  go_upto_region 3 with fail
  generalize hW : (w.alloc (.cells #[.int .i64 1, .int .i64 o, .int .i64 f] 38)).alloc (.cells #[.slice none 0 0, .slice none 0 0] 102) = W
  have hbW : Below w.heap.size w W := by rw [← hW]; exact ((Below.refl _ _).alloc (Nat.le_refl _) _).alloc (by simp) _
  have hsW : W.heap.size = w.heap.size + 2 := by rw [← hW]; simp
  have x0 : W.cell? ⟨w.heap.size, 0, none⟩ = some (.int .i64 1) := by rw [← hW]; simp
  have x1 : W.cell? ⟨w.heap.size, 1, none⟩ = some (.int .i64 o) := by rw [← hW]; simp
  have x2 : W.cell? ⟨w.heap.size, 2, none⟩ = some (.int .i64 f) := by rw [← hW]; simp
  have y0 : W.cell? ⟨w.heap.size + 1, 0, none⟩ = some (.slice none 0 0) := by rw [← hW]; simp
  have y1 : W.cell? ⟨w.heap.size + 1, 1, none⟩ = some (.slice none 0 0) := by rw [← hW]; simp
  have z0 : W.frozen? ⟨w.heap.size + 1, 0, none⟩ = false := by rw [← hW]; simp
  have z1 : W.frozen? ⟨w.heap.size + 1, 1, none⟩ = false := by rw [← hW]; simp
  have d1 : W.cell? ⟨mb, 1, none⟩ = some (.map (some pb)) := by rw [hbW.cell (by exact hmb)]; exact c1
  have db : W.heap[pb]? = some (.map es clk) := by rw [hbW.block pb hpb]; exact hb
  obtain ⟨X, hX⟩ : ∃ X, X = w.heap.size := ⟨_, rfl⟩
  rw [← hX] at x0 x1 x2 y0 y1 z0 z1 hsW
  rw [← hX]
  have HBW := Lib.hid hbW
  have HSW := Lib.hid hsW
  have HX := Lib.hid hX
  clear hW hbW hX hf
  have hall : ∀ ob : Obj, Below W.heap.size W (W.alloc ob).drew := fun ob => ((Below.refl _ _).alloc (Nat.le_refl _) _).drew
  have hmbW : mb < W.heap.size := by have := HX.out; omega
  have hXW : X < W.heap.size := by omega
  have hpbW : pb < W.heap.size := by have := HX.out; omega
  have SA : Hid (W.drew.cell? ⟨mb, 1, none⟩ = some (.map (some pb)) ∧ W.drew.cell? ⟨X, 1, none⟩ = some (.int .i64 o) ∧ W.drew.heap[pb]? = some (.map es clk)) := Lib.hid ⟨d1, x1, db⟩
  have SB : Hid ((W.alloc (.cells #[.slice none 0 0, .slice none 0 0] 102)).drew.cell? ⟨mb, 1, none⟩ = some (.map (some pb)) ∧ (W.alloc (.cells #[.slice none 0 0, .slice none 0 0] 102)).drew.cell? ⟨X, 1, none⟩ = some (.int .i64 o) ∧ (W.alloc (.cells #[.slice none 0 0, .slice none 0 0] 102)).drew.heap[pb]? = some (.map es clk)) := Lib.hid ⟨by rw [(hall _).cell (by exact hmbW)]; exact d1, by rw [(hall _).cell (by exact hXW)]; exact x1, by rw [(hall _).block pb hpbW]; exact db⟩
  have SC : Hid ((W.alloc (.cells #[.slice none 0 0, .slice none 0 0] 102)).drew.cell? ⟨mb, 1, none⟩ = some (.map (some pb)) ∧ (W.alloc (.cells #[.slice none 0 0, .slice none 0 0] 102)).drew.cell? ⟨X, 1, none⟩ = some (.int .i64 o) ∧ (W.alloc (.cells #[.slice none 0 0, .slice none 0 0] 102)).drew.heap[pb]? = some (.map es clk)) := Lib.hid ⟨by rw [(hall _).cell (by exact hmbW)]; exact d1, by rw [(hall _).cell (by exact hXW)]; exact x1, by rw [(hall _).block pb hpbW]; exact db⟩
  refine wp_region_held_drew (S := (fun w' => w'.cell? ⟨mb, 1, none⟩ = some (.map (some pb)) ∧ w'.cell? ⟨X, 1, none⟩ = some (.int .i64 o) ∧ w'.heap[pb]? = some (.map es clk))) (by kernel_rfl) (by exact SA.out) (fun hHeld => ?_)
  refine takeD (i := 0) (d := 17) (v := ?_) rfl rfl (by kernel_rfl) (by kernel_rfl) (by kernel_rfl) (fun _ _ _ h => h) (Or.inl ⟨by rfl, ?_⟩) (by assumption) ?_
  rotate_left
  · intro w hSw
    (try dsimp only at hSw)
    go_simp
    (try with_reducible rfl)
  (try simp only [Act.put, List.setIfInBounds_toArray, List.set_cons_zero, List.set_cons_succ])
  refine takeD (i := 1) (d := 18) (v := ?_) rfl rfl (by kernel_rfl) (by kernel_rfl) (by kernel_rfl) (fun _ _ _ h => h) (Or.inl ⟨by rfl, ?_⟩) (by assumption) ?_
  rotate_left
  · intro w hSw
    (try dsimp only at hSw)
    go_simp
    (try with_reducible rfl)
  (try simp only [Act.put, List.setIfInBounds_toArray, List.set_cons_zero, List.set_cons_succ])
  refine takeD (i := 2) (d := 19) (v := ?_) rfl rfl (by kernel_rfl) (by kernel_rfl) (by kernel_rfl) (fun _ _ _ h => h) (Or.inl ⟨by rfl, ?_⟩) (by assumption) ?_
  rotate_left
  · intro w hSw
    (try dsimp only at hSw)
    go_simp
    (try with_reducible rfl)
  (try simp only [Act.put, List.setIfInBounds_toArray, List.set_cons_zero, List.set_cons_succ])
  refine takeD (i := 3) (d := 20) (v := ?_) rfl rfl (by kernel_rfl) (by kernel_rfl) (by kernel_rfl) (fun _ _ _ h => h) (Or.inl ⟨by rfl, ?_⟩) (by assumption) ?_
  rotate_left
  · intro w hSw
    (try dsimp only at hSw)
    go_simp
    (try with_reducible rfl)
  (try simp only [Act.put, List.setIfInBounds_toArray, List.set_cons_zero, List.set_cons_succ])
  refine takeD (i := 4) (d := 21) (v := ?_) rfl rfl (by kernel_rfl) (by kernel_rfl) (by kernel_rfl) (fun _ _ _ h => h) (Or.inl ⟨by rfl, ?_⟩) (by assumption) ?_
  rotate_left
  · intro w hSw
    (try dsimp only at hSw)
    go_simp
    (try with_reducible rfl)
  (try simp only [Act.put, List.setIfInBounds_toArray, List.set_cons_zero, List.set_cons_succ])
  refine takeD (i := 5) (d := 22) (v := ?_) rfl rfl (by kernel_rfl) (by kernel_rfl) (by kernel_rfl) (fun _ _ _ h => h) (Or.inl ⟨by rfl, ?_⟩) (by assumption) ?_
  rotate_left
  · intro w hSw
    (try dsimp only at hSw)
    go_simp
    (try with_reducible rfl)
  (try simp only [Act.put, List.setIfInBounds_toArray, List.set_cons_zero, List.set_cons_succ])
  refine takeD (i := 6) (d := 23) (v := ?_) rfl rfl (by kernel_rfl) (by kernel_rfl) (by kernel_rfl) (fun _ _ _ h => h) (Or.inl ⟨by rfl, ?_⟩) (by assumption) ?_
  rotate_left
  · intro w hSw
    (try dsimp only at hSw)
    have hl := HLK.out w hSw.2.2
    go_simp
    (try with_reducible rfl)
  (try simp only [Act.put, List.setIfInBounds_toArray, List.set_cons_zero, List.set_cons_succ])
  refine takeD (i := 7) (d := 16) (v := ?_) rfl rfl (by kernel_rfl) (by kernel_rfl) (by kernel_rfl) (fun _ _ _ h => h) (Or.inl ⟨by rfl, ?_⟩) (by assumption) ?_
  rotate_left
  · intro w hSw
    (try dsimp only at hSw)
    go_simp
    (try with_reducible rfl)
  (try simp only [Act.put, List.setIfInBounds_toArray, List.set_cons_zero, List.set_cons_succ])
  refine takeD (i := 8) (d := 24) (v := ?_) rfl rfl (by kernel_rfl) (by kernel_rfl) (by kernel_rfl) (fun _ _ _ h => h) (Or.inl ⟨by rfl, ?_⟩) (by assumption) ?_
  rotate_left
  · intro w hSw
    (try dsimp only at hSw)
    go_simp
    (try with_reducible rfl)
  (try simp only [Act.put, List.setIfInBounds_toArray, List.set_cons_zero, List.set_cons_succ])
  refine takeD (i := 9) (d := 25) (v := ?_) rfl rfl (by kernel_rfl) (by kernel_rfl) (by kernel_rfl) (fun _ _ _ h => h) (Or.inl ⟨by rfl, ?_⟩) (by assumption) ?_
  rotate_left
  · intro w hSw
    (try dsimp only at hSw)
    go_simp
    (try with_reducible rfl)
  (try simp only [Act.put, List.setIfInBounds_toArray, List.set_cons_zero, List.set_cons_succ])
  refine wpAnyH_ready (rs := [10]) (by kernel_rfl) (by simp) ?_
  refine AllReadyH.cons rfl (fun K hK => ?_) AllReadyH.nil
  go_simp
  refine hK.out _ _ ?_ (fun hHeld2 => ?_)
  · exact SB.out
  clear hHeld hK K
  have hHeld := hHeld2
  clear hHeld2
  (try simp only [Act.put, List.setIfInBounds_toArray, List.set_cons_zero, List.set_cons_succ])
  refine wpAnyH_ready (rs := [11]) (by kernel_rfl) (by simp) ?_
  refine AllReadyH.cons rfl (fun K hK => ?_) AllReadyH.nil
  go_simp
  refine hK.out _ _ ?_ (fun hHeld2 => ?_)
  · exact SC.out
  clear hHeld hK K
  have hHeld := hHeld2
  clear hHeld2
  (try simp only [Act.put, List.setIfInBounds_toArray, List.set_cons_zero, List.set_cons_succ])
  refine takeD (i := 12) (d := 7) (v := ?_) rfl rfl (by kernel_rfl) (by kernel_rfl) (by kernel_rfl) (fun _ _ _ h => h) (Or.inl ⟨by rfl, ?_⟩) (by assumption) ?_
  rotate_left
  · intro w hSw
    (try dsimp only at hSw)
    go_simp
    (try with_reducible rfl)
  (try simp only [Act.put, List.setIfInBounds_toArray, List.set_cons_zero, List.set_cons_succ])
  refine wpAnyH_done (by kernel_rfl) ?_ _
  clear hHeld
  generalize hV : (W.alloc (.cells #[.slice none 0 0, .slice none 0 0] 102)).drew = V
  have hbV : Below W.heap.size W V := by rw [← hV]; exact hall _
  have hsV : V.heap.size = X + 3 := by rw [← hV]; simp [hsW]
  have o1 : V.cell? ⟨X + 2, 1, none⟩ = some (.slice none 0 0) := by rw [← hV, ← hsW]; simp
  have e2 : V.cell? ⟨X, 2, none⟩ = some (.int .i64 f) := by rw [hbV.cell (by exact hXW)]; exact x2
  have g0 : V.cell? ⟨X + 1, 0, none⟩ = some (.slice none 0 0) := by rw [hbV.cell (by simp; omega)]; exact y0
  have g1 : V.cell? ⟨X + 1, 1, none⟩ = some (.slice none 0 0) := by rw [hbV.cell (by simp; omega)]; exact y1
  have i0 : V.frozen? ⟨X + 1, 0, none⟩ = false := by rw [hbV.frozen (by simp; omega)]; exact z0
  have i1 : V.frozen? ⟨X + 1, 1, none⟩ = false := by rw [hbV.frozen (by simp; omega)]; exact z1
  have HBV := Lib.hid (HBW.out.trans (hbV.mono HBW.out.size))
  have HSV := Lib.hid hsV
  clear hV hbV hsV x0 x1 x2 y0 y1 z0 z1 d1 db SA SB SC hall hmbW hXW hpbW
  go_wp2_with fail
  have hbv := HBV.out
  have hsv := HSV.out
  refine bodyPost_ret (v := .tuple #[noObj, .bool false]) ?_ rfl ⟨rfl, ?_⟩
  · simp [results, Try.results35, go_sem, noObj, g0, g1]
  · have hx := HX.out
    ((repeat (first | (with_reducible exact hbv) | (with_reducible apply Below.setCell) | (with_reducible apply Below.alloc) | (with_reducible apply Below.drew))) <;> first | omega | (simp <;> omega))

set_option maxRecDepth 100000 in
set_option maxHeartbeats 4000000 in
theorem behind_neg (mb pb : Nat) (es : Array MapEntry) (clk : Nat) (o f : Int) (i s so c co n : Nat) (hf : Instr.findNow (.int .i64) (.int .i64 o) es.toList 0 = some (some (i, objV s so c co n))) (hn : n ≤ 1000000000) (hneg : f < 0) (w : World)
    (c1 : w.cell? ⟨mb, 1, none⟩ = some (.map (some pb))) (hb : w.heap[pb]? = some (.map es clk)) :
    Calls Try.prog 35 #[.pointer (some ⟨mb, 0, none⟩), ptrV 1 o f] w fun e w' => e = .returned (.tuple #[noObj, .bool false]) ∧ Below w.heap.size w w' := by
  unfold ptrV
  unfold objV at hf
  have HLK := Lib.hid (fun (w' : World) (hb : w'.heap[pb]? = some (.map es clk)) => run_look w' pb es clk hb o i _ hf true)
  have hmb := World.block_lt_of_cell? w _ c1
  simp at hmb
  have hpb : pb < w.heap.size := (Array.getElem?_eq_some_iff.1 hb).1
  go_enter Try.func35, Try.ntmps35
  go_upto_region 3 with fail
  generalize hW : (w.alloc (.cells #[.int .i64 1, .int .i64 o, .int .i64 f] 38)).alloc (.cells #[.slice none 0 0, .slice none 0 0] 102) = W
  have hbW : Below w.heap.size w W := by rw [← hW]; exact ((Below.refl _ _).alloc (Nat.le_refl _) _).alloc (by simp) _
  have hsW : W.heap.size = w.heap.size + 2 := by rw [← hW]; simp
  have x0 : W.cell? ⟨w.heap.size, 0, none⟩ = some (.int .i64 1) := by rw [← hW]; simp
  have x1 : W.cell? ⟨w.heap.size, 1, none⟩ = some (.int .i64 o) := by rw [← hW]; simp
  have x2 : W.cell? ⟨w.heap.size, 2, none⟩ = some (.int .i64 f) := by rw [← hW]; simp
  have y0 : W.cell? ⟨w.heap.size + 1, 0, none⟩ = some (.slice none 0 0) := by rw [← hW]; simp
  have y1 : W.cell? ⟨w.heap.size + 1, 1, none⟩ = some (.slice none 0 0) := by rw [← hW]; simp
  have z0 : W.frozen? ⟨w.heap.size + 1, 0, none⟩ = false := by rw [← hW]; simp
  have z1 : W.frozen? ⟨w.heap.size + 1, 1, none⟩ = false := by rw [← hW]; simp
  have d1 : W.cell? ⟨mb, 1, none⟩ = some (.map (some pb)) := by rw [hbW.cell (by exact hmb)]; exact c1
  have db : W.heap[pb]? = some (.map es clk) := by rw [hbW.block pb hpb]; exact hb
  obtain ⟨X, hX⟩ : ∃ X, X = w.heap.size := ⟨_, rfl⟩
  rw [← hX] at x0 x1 x2 y0 y1 z0 z1 hsW
  rw [← hX]
  have HBW := Lib.hid hbW
  have HSW := Lib.hid hsW
  have HX := Lib.hid hX
  clear hW hbW hX hf
  have hall : ∀ ob : Obj, Below W.heap.size W (W.alloc ob).drew := fun ob => ((Below.refl _ _).alloc (Nat.le_refl _) _).drew
  have hmbW : mb < W.heap.size := by have := HX.out; omega
  have hXW : X < W.heap.size := by omega
  have hpbW : pb < W.heap.size := by have := HX.out; omega
  have SA : Hid (W.drew.cell? ⟨mb, 1, none⟩ = some (.map (some pb)) ∧ W.drew.cell? ⟨X, 1, none⟩ = some (.int .i64 o) ∧ W.drew.heap[pb]? = some (.map es clk)) := Lib.hid ⟨d1, x1, db⟩
  have SB : Hid ((W.alloc (.cells #[.slice none 0 0, .slice none 0 0] 102)).drew.cell? ⟨mb, 1, none⟩ = some (.map (some pb)) ∧ (W.alloc (.cells #[.slice none 0 0, .slice none 0 0] 102)).drew.cell? ⟨X, 1, none⟩ = some (.int .i64 o) ∧ (W.alloc (.cells #[.slice none 0 0, .slice none 0 0] 102)).drew.heap[pb]? = some (.map es clk)) := Lib.hid ⟨by rw [(hall _).cell (by exact hmbW)]; exact d1, by rw [(hall _).cell (by exact hXW)]; exact x1, by rw [(hall _).block pb hpbW]; exact db⟩
  have SC : Hid ((W.alloc (.cells #[.slice (some ⟨s, so, none⟩) n n, .slice (some ⟨c, co, none⟩) n n] 102)).drew.cell? ⟨mb, 1, none⟩ = some (.map (some pb)) ∧ (W.alloc (.cells #[.slice (some ⟨s, so, none⟩) n n, .slice (some ⟨c, co, none⟩) n n] 102)).drew.cell? ⟨X, 1, none⟩ = some (.int .i64 o) ∧ (W.alloc (.cells #[.slice (some ⟨s, so, none⟩) n n, .slice (some ⟨c, co, none⟩) n n] 102)).drew.heap[pb]? = some (.map es clk)) := Lib.hid ⟨by rw [(hall _).cell (by exact hmbW)]; exact d1, by rw [(hall _).cell (by exact hXW)]; exact x1, by rw [(hall _).block pb hpbW]; exact db⟩
  refine wp_region_held_drew (S := (fun w' => w'.cell? ⟨mb, 1, none⟩ = some (.map (some pb)) ∧ w'.cell? ⟨X, 1, none⟩ = some (.int .i64 o) ∧ w'.heap[pb]? = some (.map es clk))) (by kernel_rfl) (by exact SA.out) (fun hHeld => ?_)
  refine takeD (i := 0) (d := 17) (v := ?_) rfl rfl (by kernel_rfl) (by kernel_rfl) (by kernel_rfl) (fun _ _ _ h => h) (Or.inl ⟨by rfl, ?_⟩) (by assumption) ?_
  rotate_left
  · intro w hSw
    (try dsimp only at hSw)
    go_simp
    (try with_reducible rfl)
  (try simp only [Act.put, List.setIfInBounds_toArray, List.set_cons_zero, List.set_cons_succ])
  refine takeD (i := 1) (d := 18) (v := ?_) rfl rfl (by kernel_rfl) (by kernel_rfl) (by kernel_rfl) (fun _ _ _ h => h) (Or.inl ⟨by rfl, ?_⟩) (by assumption) ?_
  rotate_left
  · intro w hSw
    (try dsimp only at hSw)
    go_simp
    (try with_reducible rfl)
  (try simp only [Act.put, List.setIfInBounds_toArray, List.set_cons_zero, List.set_cons_succ])
  refine takeD (i := 2) (d := 19) (v := ?_) rfl rfl (by kernel_rfl) (by kernel_rfl) (by kernel_rfl) (fun _ _ _ h => h) (Or.inl ⟨by rfl, ?_⟩) (by assumption) ?_
  rotate_left
  · intro w hSw
    (try dsimp only at hSw)
    go_simp
    (try with_reducible rfl)
  (try simp only [Act.put, List.setIfInBounds_toArray, List.set_cons_zero, List.set_cons_succ])
  refine takeD (i := 3) (d := 20) (v := ?_) rfl rfl (by kernel_rfl) (by kernel_rfl) (by kernel_rfl) (fun _ _ _ h => h) (Or.inl ⟨by rfl, ?_⟩) (by assumption) ?_
  rotate_left
  · intro w hSw
    (try dsimp only at hSw)
    go_simp
    (try with_reducible rfl)
  (try simp only [Act.put, List.setIfInBounds_toArray, List.set_cons_zero, List.set_cons_succ])
  refine takeD (i := 4) (d := 21) (v := ?_) rfl rfl (by kernel_rfl) (by kernel_rfl) (by kernel_rfl) (fun _ _ _ h => h) (Or.inl ⟨by rfl, ?_⟩) (by assumption) ?_
  rotate_left
  · intro w hSw
    (try dsimp only at hSw)
    go_simp
    (try with_reducible rfl)
  (try simp only [Act.put, List.setIfInBounds_toArray, List.set_cons_zero, List.set_cons_succ])
  refine takeD (i := 5) (d := 22) (v := ?_) rfl rfl (by kernel_rfl) (by kernel_rfl) (by kernel_rfl) (fun _ _ _ h => h) (Or.inl ⟨by rfl, ?_⟩) (by assumption) ?_
  rotate_left
  · intro w hSw
    (try dsimp only at hSw)
    go_simp
    (try with_reducible rfl)
  (try simp only [Act.put, List.setIfInBounds_toArray, List.set_cons_zero, List.set_cons_succ])
  refine takeD (i := 6) (d := 23) (v := ?_) rfl rfl (by kernel_rfl) (by kernel_rfl) (by kernel_rfl) (fun _ _ _ h => h) (Or.inl ⟨by rfl, ?_⟩) (by assumption) ?_
  rotate_left
  · intro w hSw
    (try dsimp only at hSw)
    have hl := HLK.out w hSw.2.2
    go_simp
    (try with_reducible rfl)
  (try simp only [Act.put, List.setIfInBounds_toArray, List.set_cons_zero, List.set_cons_succ])
  refine takeD (i := 7) (d := 16) (v := ?_) rfl rfl (by kernel_rfl) (by kernel_rfl) (by kernel_rfl) (fun _ _ _ h => h) (Or.inl ⟨by rfl, ?_⟩) (by assumption) ?_
  rotate_left
  · intro w hSw
    (try dsimp only at hSw)
    go_simp
    (try with_reducible rfl)
  (try simp only [Act.put, List.setIfInBounds_toArray, List.set_cons_zero, List.set_cons_succ])
  refine takeD (i := 8) (d := 24) (v := ?_) rfl rfl (by kernel_rfl) (by kernel_rfl) (by kernel_rfl) (fun _ _ _ h => h) (Or.inl ⟨by rfl, ?_⟩) (by assumption) ?_
  rotate_left
  · intro w hSw
    (try dsimp only at hSw)
    go_simp
    (try with_reducible rfl)
  (try simp only [Act.put, List.setIfInBounds_toArray, List.set_cons_zero, List.set_cons_succ])
  refine takeD (i := 9) (d := 25) (v := ?_) rfl rfl (by kernel_rfl) (by kernel_rfl) (by kernel_rfl) (fun _ _ _ h => h) (Or.inl ⟨by rfl, ?_⟩) (by assumption) ?_
  rotate_left
  · intro w hSw
    (try dsimp only at hSw)
    go_simp
    (try with_reducible rfl)
  (try simp only [Act.put, List.setIfInBounds_toArray, List.set_cons_zero, List.set_cons_succ])
  refine wpAnyH_ready (rs := [10]) (by kernel_rfl) (by simp) ?_
  refine AllReadyH.cons rfl (fun K hK => ?_) AllReadyH.nil
  go_simp
  refine hK.out _ _ ?_ (fun hHeld2 => ?_)
  · exact SB.out
  clear hHeld hK K
  have hHeld := hHeld2
  clear hHeld2
  (try simp only [Act.put, List.setIfInBounds_toArray, List.set_cons_zero, List.set_cons_succ])
  refine wpAnyH_ready (rs := [11]) (by kernel_rfl) (by simp) ?_
  refine AllReadyH.cons rfl (fun K hK => ?_) AllReadyH.nil
  go_simp
  refine hK.out _ _ ?_ (fun hHeld2 => ?_)
  · exact SC.out
  clear hHeld hK K
  have hHeld := hHeld2
  clear hHeld2
  (try simp only [Act.put, List.setIfInBounds_toArray, List.set_cons_zero, List.set_cons_succ])
  refine takeD (i := 12) (d := 7) (v := ?_) rfl rfl (by kernel_rfl) (by kernel_rfl) (by kernel_rfl) (fun _ _ _ h => h) (Or.inl ⟨by rfl, ?_⟩) (by assumption) ?_
  rotate_left
  · intro w hSw
    (try dsimp only at hSw)
    go_simp
    (try with_reducible rfl)
  (try simp only [Act.put, List.setIfInBounds_toArray, List.set_cons_zero, List.set_cons_succ])
  refine wpAnyH_done (by kernel_rfl) ?_ _
  clear hHeld
  generalize hV : (W.alloc (.cells #[.slice (some ⟨s, so, none⟩) n n, .slice (some ⟨c, co, none⟩) n n] 102)).drew = V
  have hbV : Below W.heap.size W V := by rw [← hV]; exact hall _
  have hsV : V.heap.size = X + 3 := by rw [← hV]; simp [hsW]
  have o1 : V.cell? ⟨X + 2, 1, none⟩ = some (.slice (some ⟨c, co, none⟩) n n) := by rw [← hV, ← hsW]; simp
  have e2 : V.cell? ⟨X, 2, none⟩ = some (.int .i64 f) := by rw [hbV.cell (by exact hXW)]; exact x2
  have g0 : V.cell? ⟨X + 1, 0, none⟩ = some (.slice none 0 0) := by rw [hbV.cell (by simp; omega)]; exact y0
  have g1 : V.cell? ⟨X + 1, 1, none⟩ = some (.slice none 0 0) := by rw [hbV.cell (by simp; omega)]; exact y1
  have i0 : V.frozen? ⟨X + 1, 0, none⟩ = false := by rw [hbV.frozen (by simp; omega)]; exact z0
  have i1 : V.frozen? ⟨X + 1, 1, none⟩ = false := by rw [hbV.frozen (by simp; omega)]; exact z1
  have HBV := Lib.hid (HBW.out.trans (hbV.mono HBW.out.size))
  have HSV := Lib.hid hsV
  clear hV hbV hsV x0 x1 x2 y0 y1 z0 z1 d1 db SA SB SC hall hmbW hXW hpbW
  go_wp2_with fail
  have hbv := HBV.out
  have hsv := HSV.out
  refine bodyPost_ret (v := .tuple #[noObj, .bool false]) ?_ rfl ⟨rfl, ?_⟩
  · simp [results, Try.results35, go_sem, noObj, g0, g1]
  · have hx := HX.out
    ((repeat (first | (with_reducible exact hbv) | (with_reducible apply Below.setCell) | (with_reducible apply Below.alloc) | (with_reducible apply Below.drew))) <;> first | omega | (simp <;> omega))

set_option maxRecDepth 100000 in
set_option maxHeartbeats 4000000 in
theorem behind_far (mb pb : Nat) (es : Array MapEntry) (clk : Nat) (o f : Int) (i s so c co n : Nat) (hf : Instr.findNow (.int .i64) (.int .i64 o) es.toList 0 = some (some (i, objV s so c co n))) (hn : n ≤ 1000000000) (hfar : (n : Int) < f) (w : World)
    (c1 : w.cell? ⟨mb, 1, none⟩ = some (.map (some pb))) (hb : w.heap[pb]? = some (.map es clk)) :
    Calls Try.prog 35 #[.pointer (some ⟨mb, 0, none⟩), ptrV 1 o f] w fun e w' => e = .returned (.tuple #[noObj, .bool false]) ∧ Below w.heap.size w w' := by
  unfold ptrV
  unfold objV at hf
  have HLK := Lib.hid (fun (w' : World) (hb : w'.heap[pb]? = some (.map es clk)) => run_look w' pb es clk hb o i _ hf true)
  have hmb := World.block_lt_of_cell? w _ c1
  simp at hmb
  have hpb : pb < w.heap.size := (Array.getElem?_eq_some_iff.1 hb).1
  go_enter Try.func35, Try.ntmps35
  go_upto_region 3 with fail
  generalize hW : (w.alloc (.cells #[.int .i64 1, .int .i64 o, .int .i64 f] 38)).alloc (.cells #[.slice none 0 0, .slice none 0 0] 102) = W
  have hbW : Below w.heap.size w W := by rw [← hW]; exact ((Below.refl _ _).alloc (Nat.le_refl _) _).alloc (by simp) _
  have hsW : W.heap.size = w.heap.size + 2 := by rw [← hW]; simp
  have x0 : W.cell? ⟨w.heap.size, 0, none⟩ = some (.int .i64 1) := by rw [← hW]; simp
  have x1 : W.cell? ⟨w.heap.size, 1, none⟩ = some (.int .i64 o) := by rw [← hW]; simp
  have x2 : W.cell? ⟨w.heap.size, 2, none⟩ = some (.int .i64 f) := by rw [← hW]; simp
  have y0 : W.cell? ⟨w.heap.size + 1, 0, none⟩ = some (.slice none 0 0) := by rw [← hW]; simp
  have y1 : W.cell? ⟨w.heap.size + 1, 1, none⟩ = some (.slice none 0 0) := by rw [← hW]; simp
  have z0 : W.frozen? ⟨w.heap.size + 1, 0, none⟩ = false := by rw [← hW]; simp
  have z1 : W.frozen? ⟨w.heap.size + 1, 1, none⟩ = false := by rw [← hW]; simp
  have d1 : W.cell? ⟨mb, 1, none⟩ = some (.map (some pb)) := by rw [hbW.cell (by exact hmb)]; exact c1
  have db : W.heap[pb]? = some (.map es clk) := by rw [hbW.block pb hpb]; exact hb
  obtain ⟨X, hX⟩ : ∃ X, X = w.heap.size := ⟨_, rfl⟩
  rw [← hX] at x0 x1 x2 y0 y1 z0 z1 hsW
  rw [← hX]
  have HBW := Lib.hid hbW
  have HSW := Lib.hid hsW
  have HX := Lib.hid hX
  clear hW hbW hX hf
  have hall : ∀ ob : Obj, Below W.heap.size W (W.alloc ob).drew := fun ob => ((Below.refl _ _).alloc (Nat.le_refl _) _).drew
  have hmbW : mb < W.heap.size := by have := HX.out; omega
  have hXW : X < W.heap.size := by omega
  have hpbW : pb < W.heap.size := by have := HX.out; omega
  have SA : Hid (W.drew.cell? ⟨mb, 1, none⟩ = some (.map (some pb)) ∧ W.drew.cell? ⟨X, 1, none⟩ = some (.int .i64 o) ∧ W.drew.heap[pb]? = some (.map es clk)) := Lib.hid ⟨d1, x1, db⟩
  have SB : Hid ((W.alloc (.cells #[.slice none 0 0, .slice none 0 0] 102)).drew.cell? ⟨mb, 1, none⟩ = some (.map (some pb)) ∧ (W.alloc (.cells #[.slice none 0 0, .slice none 0 0] 102)).drew.cell? ⟨X, 1, none⟩ = some (.int .i64 o) ∧ (W.alloc (.cells #[.slice none 0 0, .slice none 0 0] 102)).drew.heap[pb]? = some (.map es clk)) := Lib.hid ⟨by rw [(hall _).cell (by exact hmbW)]; exact d1, by rw [(hall _).cell (by exact hXW)]; exact x1, by rw [(hall _).block pb hpbW]; exact db⟩
  have SC : Hid ((W.alloc (.cells #[.slice (some ⟨s, so, none⟩) n n, .slice (some ⟨c, co, none⟩) n n] 102)).drew.cell? ⟨mb, 1, none⟩ = some (.map (some pb)) ∧ (W.alloc (.cells #[.slice (some ⟨s, so, none⟩) n n, .slice (some ⟨c, co, none⟩) n n] 102)).drew.cell? ⟨X, 1, none⟩ = some (.int .i64 o) ∧ (W.alloc (.cells #[.slice (some ⟨s, so, none⟩) n n, .slice (some ⟨c, co, none⟩) n n] 102)).drew.heap[pb]? = some (.map es clk)) := Lib.hid ⟨by rw [(hall _).cell (by exact hmbW)]; exact d1, by rw [(hall _).cell (by exact hXW)]; exact x1, by rw [(hall _).block pb hpbW]; exact db⟩
  refine wp_region_held_drew (S := (fun w' => w'.cell? ⟨mb, 1, none⟩ = some (.map (some pb)) ∧ w'.cell? ⟨X, 1, none⟩ = some (.int .i64 o) ∧ w'.heap[pb]? = some (.map es clk))) (by kernel_rfl) (by exact SA.out) (fun hHeld => ?_)
  refine takeD (i := 0) (d := 17) (v := ?_) rfl rfl (by kernel_rfl) (by kernel_rfl) (by kernel_rfl) (fun _ _ _ h => h) (Or.inl ⟨by rfl, ?_⟩) (by assumption) ?_
  rotate_left
  · intro w hSw
    (try dsimp only at hSw)
    go_simp
    (try with_reducible rfl)
  (try simp only [Act.put, List.setIfInBounds_toArray, List.set_cons_zero, List.set_cons_succ])
  refine takeD (i := 1) (d := 18) (v := ?_) rfl rfl (by kernel_rfl) (by kernel_rfl) (by kernel_rfl) (fun _ _ _ h => h) (Or.inl ⟨by rfl, ?_⟩) (by assumption) ?_
  rotate_left
  · intro w hSw
    (try dsimp only at hSw)
    go_simp
    (try with_reducible rfl)
  (try simp only [Act.put, List.setIfInBounds_toArray, List.set_cons_zero, List.set_cons_succ])
  refine takeD (i := 2) (d := 19) (v := ?_) rfl rfl (by kernel_rfl) (by kernel_rfl) (by kernel_rfl) (fun _ _ _ h => h) (Or.inl ⟨by rfl, ?_⟩) (by assumption) ?_
  rotate_left
  · intro w hSw
    (try dsimp only at hSw)
    go_simp
    (try with_reducible rfl)
  (try simp only [Act.put, List.setIfInBounds_toArray, List.set_cons_zero, List.set_cons_succ])
  refine takeD (i := 3) (d := 20) (v := ?_) rfl rfl (by kernel_rfl) (by kernel_rfl) (by kernel_rfl) (fun _ _ _ h => h) (Or.inl ⟨by rfl, ?_⟩) (by assumption) ?_
  rotate_left
  · intro w hSw
    (try dsimp only at hSw)
    go_simp
    (try with_reducible rfl)
  (try simp only [Act.put, List.setIfInBounds_toArray, List.set_cons_zero, List.set_cons_succ])
  refine takeD (i := 4) (d := 21) (v := ?_) rfl rfl (by kernel_rfl) (by kernel_rfl) (by kernel_rfl) (fun _ _ _ h => h) (Or.inl ⟨by rfl, ?_⟩) (by assumption) ?_
  rotate_left
  · intro w hSw
    (try dsimp only at hSw)
    go_simp
    (try with_reducible rfl)
  (try simp only [Act.put, List.setIfInBounds_toArray, List.set_cons_zero, List.set_cons_succ])
  refine takeD (i := 5) (d := 22) (v := ?_) rfl rfl (by kernel_rfl) (by kernel_rfl) (by kernel_rfl) (fun _ _ _ h => h) (Or.inl ⟨by rfl, ?_⟩) (by assumption) ?_
  rotate_left
  · intro w hSw
    (try dsimp only at hSw)
    go_simp
    (try with_reducible rfl)
  (try simp only [Act.put, List.setIfInBounds_toArray, List.set_cons_zero, List.set_cons_succ])
  refine takeD (i := 6) (d := 23) (v := ?_) rfl rfl (by kernel_rfl) (by kernel_rfl) (by kernel_rfl) (fun _ _ _ h => h) (Or.inl ⟨by rfl, ?_⟩) (by assumption) ?_
  rotate_left
  · intro w hSw
    (try dsimp only at hSw)
    have hl := HLK.out w hSw.2.2
    go_simp
    (try with_reducible rfl)
  (try simp only [Act.put, List.setIfInBounds_toArray, List.set_cons_zero, List.set_cons_succ])
  refine takeD (i := 7) (d := 16) (v := ?_) rfl rfl (by kernel_rfl) (by kernel_rfl) (by kernel_rfl) (fun _ _ _ h => h) (Or.inl ⟨by rfl, ?_⟩) (by assumption) ?_
  rotate_left
  · intro w hSw
    (try dsimp only at hSw)
    go_simp
    (try with_reducible rfl)
  (try simp only [Act.put, List.setIfInBounds_toArray, List.set_cons_zero, List.set_cons_succ])
  refine takeD (i := 8) (d := 24) (v := ?_) rfl rfl (by kernel_rfl) (by kernel_rfl) (by kernel_rfl) (fun _ _ _ h => h) (Or.inl ⟨by rfl, ?_⟩) (by assumption) ?_
  rotate_left
  · intro w hSw
    (try dsimp only at hSw)
    go_simp
    (try with_reducible rfl)
  (try simp only [Act.put, List.setIfInBounds_toArray, List.set_cons_zero, List.set_cons_succ])
  refine takeD (i := 9) (d := 25) (v := ?_) rfl rfl (by kernel_rfl) (by kernel_rfl) (by kernel_rfl) (fun _ _ _ h => h) (Or.inl ⟨by rfl, ?_⟩) (by assumption) ?_
  rotate_left
  · intro w hSw
    (try dsimp only at hSw)
    go_simp
    (try with_reducible rfl)
  (try simp only [Act.put, List.setIfInBounds_toArray, List.set_cons_zero, List.set_cons_succ])
  refine wpAnyH_ready (rs := [10]) (by kernel_rfl) (by simp) ?_
  refine AllReadyH.cons rfl (fun K hK => ?_) AllReadyH.nil
  go_simp
  refine hK.out _ _ ?_ (fun hHeld2 => ?_)
  · exact SB.out
  clear hHeld hK K
  have hHeld := hHeld2
  clear hHeld2
  (try simp only [Act.put, List.setIfInBounds_toArray, List.set_cons_zero, List.set_cons_succ])
  refine wpAnyH_ready (rs := [11]) (by kernel_rfl) (by simp) ?_
  refine AllReadyH.cons rfl (fun K hK => ?_) AllReadyH.nil
  go_simp
  refine hK.out _ _ ?_ (fun hHeld2 => ?_)
  · exact SC.out
  clear hHeld hK K
  have hHeld := hHeld2
  clear hHeld2
  (try simp only [Act.put, List.setIfInBounds_toArray, List.set_cons_zero, List.set_cons_succ])
  refine takeD (i := 12) (d := 7) (v := ?_) rfl rfl (by kernel_rfl) (by kernel_rfl) (by kernel_rfl) (fun _ _ _ h => h) (Or.inl ⟨by rfl, ?_⟩) (by assumption) ?_
  rotate_left
  · intro w hSw
    (try dsimp only at hSw)
    go_simp
    (try with_reducible rfl)
  (try simp only [Act.put, List.setIfInBounds_toArray, List.set_cons_zero, List.set_cons_succ])
  refine wpAnyH_done (by kernel_rfl) ?_ _
  clear hHeld
  generalize hV : (W.alloc (.cells #[.slice (some ⟨s, so, none⟩) n n, .slice (some ⟨c, co, none⟩) n n] 102)).drew = V
  have hbV : Below W.heap.size W V := by rw [← hV]; exact hall _
  have hsV : V.heap.size = X + 3 := by rw [← hV]; simp [hsW]
  have o1 : V.cell? ⟨X + 2, 1, none⟩ = some (.slice (some ⟨c, co, none⟩) n n) := by rw [← hV, ← hsW]; simp
  have e2 : V.cell? ⟨X, 2, none⟩ = some (.int .i64 f) := by rw [hbV.cell (by exact hXW)]; exact x2
  have g0 : V.cell? ⟨X + 1, 0, none⟩ = some (.slice none 0 0) := by rw [hbV.cell (by simp; omega)]; exact y0
  have g1 : V.cell? ⟨X + 1, 1, none⟩ = some (.slice none 0 0) := by rw [hbV.cell (by simp; omega)]; exact y1
  have i0 : V.frozen? ⟨X + 1, 0, none⟩ = false := by rw [hbV.frozen (by simp; omega)]; exact z0
  have i1 : V.frozen? ⟨X + 1, 1, none⟩ = false := by rw [hbV.frozen (by simp; omega)]; exact z1
  have HBV := Lib.hid (HBW.out.trans (hbV.mono HBW.out.size))
  have HSV := Lib.hid hsV
  clear hV hbV hsV x0 x1 x2 y0 y1 z0 z1 d1 db SA SB SC hall hmbW hXW hpbW
  go_wp2_with fail
  have hbv := HBV.out
  have hsv := HSV.out
  refine bodyPost_ret (v := .tuple #[noObj, .bool false]) ?_ rfl ⟨rfl, ?_⟩
  · simp [results, Try.results35, go_sem, noObj, g0, g1]
  · have hx := HX.out
    ((repeat (first | (with_reducible exact hbv) | (with_reducible apply Below.setCell) | (with_reducible apply Below.alloc) | (with_reducible apply Below.drew))) <;> first | omega | (simp <;> omega))
end Go.Proofs.Ytdkhanjfncbfnaa
