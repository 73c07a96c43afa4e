import Derived.Test.YtdkhanjfncbfnaaOsK
namespace Go.Proofs.Ytdkhanjfncbfnaa
open Go Go.RowKit
set_option linter.unusedVariables false
set_option linter.unusedSimpArgs false

def mapSet (w : World) (pb : Nat) (o : Obj) : World := { w with heap := w.heap.setIfInBounds pb o }
theorem mapSet_other (w : World) (pb g : Nat) (o : Obj) (h : g ≠ pb) : (mapSet w pb o).heap[g]? = w.heap[g]? := by
  unfold mapSet
  simp [Ne.symm h]
theorem mapSet_at (w : World) (pb : Nat) (o : Obj) {o' : Obj} (h : w.heap[pb]? = some o') : (mapSet w pb o).heap[pb]? = some o := (MapKept.heap_set h).1
/-- The streams and the heap's size are as they were. -/
structure Outer (w w' : World) : Prop where
  os : w'.os = w.os
  tape : w'.tape = w.tape
  output : w'.output = w.output
  size : w'.heap.size = w.heap.size
theorem run_new' (w : World) (pb : Nat) (es : Array MapEntry) (clk : Nat) (hb : w.heap[pb]? = some (.map es clk)) (k : Int) (v : Value) (hf : Instr.findNow (.int .i64) (.int .i64 k) es.toList 0 = some none) :
    (Instr.mapUpdate 89 (.map (some pb)) (.int .i64 k) v).run Try.prog w = .ok () (mapSet w pb (.map (es.push { key := .int .i64 k, val := v, born := clk }) (clk + 1))) := run_new w pb es clk hb k v hf


/-- What Make leaves. -/
structure Made (w w' : World) (mb pb m N : Nat) (es : Array MapEntry) (clk : Nat) (L : Nat → Bool) (s c : Nat) : Prop where
  mem : MemAt w' mb pb (m + 1) (es.push { key := .int .i64 m, val := objV s 0 c 0 N, born := clk }) (clk + 1)
  labs : Labs w' s 0 N L
  cells : Cells5 w' c 0 N (fun _ => ⟨0, 0, 0, 0, 0⟩)
  fz : ∀ j, w'.frozen? ⟨c, j, none⟩ = false
  s1 : w.heap.size ≤ s
  c1 : w.heap.size ≤ c
  s2 : s < w'.heap.size
  c2 : c < w'.heap.size
  sc : s ≠ c
  keep : ∀ g, g < w.heap.size → g ≠ mb → g ≠ pb → w'.heap[g]? = w.heap[g]?
  os : w'.os = w.os
  tape : w'.tape = w.tape
  output : w'.output = w.output
  size : w.heap.size ≤ w'.heap.size
set_option maxRecDepth 100000 in
set_option maxHeartbeats 16000000 in
theorem make_next (mb pb m N : Nat) (hN : N ≤ 1000000) (hm : m ≤ 1000000) (es : Array MapEntry) (clk : Nat) (hf : Instr.findNow (.int .i64) (.int .i64 m) es.toList 0 = some none) (la lo lc : Nat) (L : Nat → Bool) (w : World) (h : MemAt w mb pb m es clk) (hL : Labs w la lo N L) (hla : la < w.heap.size) :
    Calls Try.prog 21 #[.pointer (some ⟨mb, 0, none⟩), .slice (some ⟨la, lo, none⟩) N lc] w fun e w' => e = .returned (.int .i64 m) ∧ ∃ s c, Made w w' mb pb m N es clk L s c := by
  obtain ⟨c0, c1, f0, hb, hne⟩ := h
  have hmb := World.block_lt_of_cell? w _ c0
  simp at hmb
  have hpb : pb < w.heap.size := (Array.getElem?_eq_some_iff.1 hb).1
  have hm1 := fun w => make_bools N (by omega) w
  have hm2 := fun w => make_cells N (by omega) w
  have hmq := fun w => map_eq w (some pb)
  have HL := Lib.hid hL
  have HBP := Lib.hid hb
  have HF := Lib.hid hf
  have HC0 := Lib.hid c0
  have HC1 := Lib.hid c1
  have HF0 := Lib.hid f0
  clear hL hf
  go_enter Try.func21, Try.ntmps21
  go_upto_region 5 with fail
  go_cut [5] (fun s5 wx => ∃ (W5 : World) (s c O : Nat), W5 = wx ∧ s5 = .pointer (some ⟨O, 0, none⟩) ∧ NewObj w wx s c O N)
  case first =>
    go_region
    all_goals go_wp2_with fail
    all_goals go_meet
    · exact ⟨_, w.heap.size, w.heap.size + 1, w.heap.size + 2, rfl, rfl, newObj3 w N _ _ _ 0 1 2 (by omega) (by omega) (by omega) (by omega) (by omega) (by omega) rfl rfl rfl⟩
    · exact ⟨_, w.heap.size, w.heap.size + 2, w.heap.size + 1, rfl, rfl, newObj3 w N _ _ _ 0 2 1 (by omega) (by omega) (by omega) (by omega) (by omega) (by omega) rfl rfl rfl⟩
    · exact ⟨_, w.heap.size + 1, w.heap.size, w.heap.size + 2, rfl, rfl, newObj3 w N _ _ _ 1 0 2 (by omega) (by omega) (by omega) (by omega) (by omega) (by omega) rfl rfl rfl⟩
    · exact ⟨_, w.heap.size + 2, w.heap.size, w.heap.size + 1, rfl, rfl, newObj3 w N _ _ _ 2 0 1 (by omega) (by omega) (by omega) (by omega) (by omega) (by omega) rfl rfl rfl⟩
    · exact ⟨_, w.heap.size + 1, w.heap.size + 2, w.heap.size, rfl, rfl, newObj3 w N _ _ _ 1 2 0 (by omega) (by omega) (by omega) (by omega) (by omega) (by omega) rfl rfl rfl⟩
    · exact ⟨_, w.heap.size + 2, w.heap.size + 1, w.heap.size, rfl, rfl, newObj3 w N _ _ _ 2 1 0 (by omega) (by omega) (by omega) (by omega) (by omega) (by omega) rfl rfl rfl⟩
  case rest =>
    obtain ⟨W5, s, c, O, rfl, rfl, hno⟩ := hcut
    have HNO := Lib.hid hno
    have hcl : ((List.range N).map (fun i => Value.bool (L i))).length = N := by simp
    have hcp := run_copy_cells (P := Try.prog) W5 28 28 3 4 s 0 N N ⟨la, lo, none⟩ N lc ((List.range N).map (fun i => Value.bool (L i))) Try.underlying28 (by kernel_rfl) (by simp) (fun j v hv => by
        have hj : j < N := by
          rcases Nat.lt_or_ge j N with h | h
          · exact h
          · rw [List.getElem?_eq_none (by simpa using h)] at hv; cases hv
        have := (HL.out.below HNO.out.b hla) j hj
        rw [show (⟨la, lo, none⟩ : Addr).add j = ⟨la, lo + j, none⟩ from by unfold Addr.add; split <;> simp_all, this]
        simpa [hj] using hv) (fun j hj => by
        rw [Nat.zero_add, cell_heap HNO.out.hs]
        simp [madeCells] at hj ⊢
        exact hj) (fun j hj => frozen_heap HNO.out.hs _) (by simp [Value.oneCell'])
    rw [hcl] at hcp
    have o0 : W5.cell? ⟨O, 0, none⟩ = some (.slice (some ⟨s, 0, none⟩) N N) := by rw [cell_heap HNO.out.ho]; rfl
    clear hno hm1 hm2
    go_upto_region 7 with fail
    generalize hW6 : W5.setCells s 0 ((List.range N).map (fun i => Value.bool (L i))) = W6
    have hT : Turn s W5 W6 := by rw [← hW6]; exact Turn.setCells _ _ _ _
    have hlab : Labs W6 s 0 N L := fun i hi => by
      rw [← hW6]
      have := World.cell?_setCells_in s ((List.range N).map (fun i => Value.bool (L i))) 0 W5 (fun j hj => by
        rw [Nat.zero_add, cell_heap HNO.out.hs]
        simp [madeCells] at hj ⊢
        exact hj) i (by simpa using hi)
      rw [this]; simp
    have HT := Lib.hid hT
    have HLAB := Lib.hid hlab
    have hz5 := HNO.out.b.size
    have hO1 := HNO.out.o1
    have hO2 := HNO.out.o2
    have hOs := HNO.out.so
    have hs1 := HNO.out.s1
    have hmbs : mb ≠ s := by omega
    have hOp : O ≠ pb := by omega
    have hpbs : pb ≠ s := by omega
    have d0 : W6.cell? ⟨mb, 0, none⟩ = some (.int .i64 m) := by rw [hT.cell (by show mb < W5.heap.size; omega) (by exact hmbs), HNO.out.b.cell (by exact hmb)]; exact HC0.out
    have d1 : W6.cell? ⟨mb, 1, none⟩ = some (.map (some pb)) := by rw [hT.cell (by show mb < W5.heap.size; omega) (by exact hmbs), HNO.out.b.cell (by exact hmb)]; exact HC1.out
    have g0 : W6.frozen? ⟨mb, 0, none⟩ = false := by rw [World.frozen?_of_block (hT.block mb (by omega) hmbs), HNO.out.b.frozen (by exact hmb)]; exact HF0.out
    have hb6 : W6.heap[pb]? = some (.map es clk) := by rw [hT.block pb (by omega) hpbs, HNO.out.b.block pb hpb]; exact HBP.out
    have p0 : W6.cell? ⟨O, 0, none⟩ = some (.slice (some ⟨s, 0, none⟩) N N) := by rw [hT.cell (by exact hO2) (by exact hOs.symm)]; exact o0
    have p1 : W6.cell? ⟨O, 1, none⟩ = some (.slice (some ⟨c, 0, none⟩) N N) := by rw [hT.cell (by exact hO2) (by exact hOs.symm), cell_heap HNO.out.ho]; rfl
    have hnew := Lib.hid (fun (w' : World) (hb : w'.heap[pb]? = some (.map es clk)) => run_new' w' pb es clk hb m (.agg #[.slice (some ⟨s, 0, none⟩) N N, .slice (some ⟨c, 0, none⟩) N N]) HF.out)
    have SD : Hid (W6.drew.cell? ⟨mb, 1, none⟩ = some (.map (some pb)) ∧ W6.drew.cell? ⟨O, 0, none⟩ = some (.slice (some ⟨s, 0, none⟩) N N) ∧ W6.drew.cell? ⟨O, 1, none⟩ = some (.slice (some ⟨c, 0, none⟩) N N)) := Lib.hid ⟨d1, p0, p1⟩
    have HD0 := Lib.hid d0
    have HG0 := Lib.hid g0
    have HB6 := Lib.hid hb6
    clear hW6 hT hlab hcp hcl o0 hz5 hO1 hO2 hOs hs1 hmbs hpbs
    go_upto_region 8 with fail
    refine wp_region_held_drew (S := (fun w' => w'.cell? ⟨mb, 1, none⟩ = some (.map (some pb)) ∧ w'.cell? ⟨O, 0, none⟩ = some (.slice (some ⟨s, 0, none⟩) N N) ∧ w'.cell? ⟨O, 1, none⟩ = some (.slice (some ⟨c, 0, none⟩) N N))) (by kernel_rfl) (by exact SD.out) (fun hHeld => ?_)
    refine takeD (i := 0) (d := 33) (v := ?_) rfl rfl (by kernel_rfl) (by kernel_rfl) (by kernel_rfl) (fun _ _ _ h => h) (Or.inl ⟨by rfl, ?_⟩) (by assumption) ?_
    rotate_left
    · intro w hSw
      (try dsimp only at hSw)
      go_simp
      (try with_reducible rfl)
    (try simp only [Act.put, List.setIfInBounds_toArray, List.set_cons_zero, List.set_cons_succ])
    refine takeD (i := 1) (d := 34) (v := ?_) rfl rfl (by kernel_rfl) (by kernel_rfl) (by kernel_rfl) (fun _ _ _ h => h) (Or.inl ⟨by rfl, ?_⟩) (by assumption) ?_
    rotate_left
    · intro w hSw
      (try dsimp only at hSw)
      go_simp
      (try with_reducible rfl)
    (try simp only [Act.put, List.setIfInBounds_toArray, List.set_cons_zero, List.set_cons_succ])
    refine takeD (i := 2) (d := 35) (v := ?_) rfl rfl (by kernel_rfl) (by kernel_rfl) (by kernel_rfl) (fun _ _ _ h => h) (Or.inl ⟨by rfl, ?_⟩) (by assumption) ?_
    rotate_left
    · intro w hSw
      (try dsimp only at hSw)
      go_simp
      (try with_reducible rfl)
    (try simp only [Act.put, List.setIfInBounds_toArray, List.set_cons_zero, List.set_cons_succ])
    refine takeD (i := 3) (d := 36) (v := ?_) rfl rfl (by kernel_rfl) (by kernel_rfl) (by kernel_rfl) (fun _ _ _ h => h) (Or.inl ⟨by rfl, ?_⟩) (by assumption) ?_
    rotate_left
    · intro w hSw
      (try dsimp only at hSw)
      go_simp
      (try with_reducible rfl)
    (try simp only [Act.put, List.setIfInBounds_toArray, List.set_cons_zero, List.set_cons_succ])
    refine takeD (i := 4) (d := 37) (v := ?_) rfl rfl (by kernel_rfl) (by kernel_rfl) (by kernel_rfl) (fun _ _ _ h => h) (Or.inl ⟨by rfl, ?_⟩) (by assumption) ?_
    rotate_left
    · intro w hSw
      (try dsimp only at hSw)
      go_simp
      (try with_reducible rfl)
    (try simp only [Act.put, List.setIfInBounds_toArray, List.set_cons_zero, List.set_cons_succ])
    refine takeD (i := 5) (d := 38) (v := ?_) rfl rfl (by kernel_rfl) (by kernel_rfl) (by kernel_rfl) (fun _ _ _ h => h) (Or.inl ⟨by rfl, ?_⟩) (by assumption) ?_
    rotate_left
    · intro w hSw
      (try dsimp only at hSw)
      go_simp
      (try with_reducible rfl)
    (try simp only [Act.put, List.setIfInBounds_toArray, List.set_cons_zero, List.set_cons_succ])
    refine wpAnyH_ready (rs := [6]) (by kernel_rfl) (by simp) ?_
    refine AllReadyH.cons rfl (fun K hK => ?_) AllReadyH.nil
    go_simp
    rw [hnew.out W6.drew hb6]
    go_simp
    generalize hW7 : mapSet W6.drew pb (.map (es.push { key := .int .i64 m, val := (.agg #[.slice (some ⟨s, 0, none⟩) N N, .slice (some ⟨c, 0, none⟩) N N]), born := clk }) (clk + 1)) = W7
    have h7 : ∀ g, g ≠ pb → W7.heap[g]? = W6.heap[g]? := fun g hg => by rw [← hW7]; exact mapSet_other _ _ _ _ hg
    have h7p : W7.heap[pb]? = some (.map (es.push { key := .int .i64 m, val := (.agg #[.slice (some ⟨s, 0, none⟩) N N, .slice (some ⟨c, 0, none⟩) N N]), born := clk }) (clk + 1)) := by rw [← hW7]; exact mapSet_at _ _ _ hb6
    have h7s : Outer W6 W7 := by rw [← hW7]; exact ⟨rfl, rfl, rfl, by simp [mapSet]⟩
    have k0 : W7.cell? ⟨mb, 0, none⟩ = some (.int .i64 m) := by rw [World.cell?_of_block (h7 mb hne.symm)]; exact d0
    have k1 : W7.cell? ⟨mb, 1, none⟩ = some (.map (some pb)) := by rw [World.cell?_of_block (h7 mb hne.symm)]; exact d1
    have k2 : W7.frozen? ⟨mb, 0, none⟩ = false := by rw [World.frozen?_of_block (h7 mb hne.symm)]; exact g0
    have q0 : W7.cell? ⟨O, 0, none⟩ = some (.slice (some ⟨s, 0, none⟩) N N) := by rw [World.cell?_of_block (h7 O hOp)]; exact p0
    have q1 : W7.cell? ⟨O, 1, none⟩ = some (.slice (some ⟨c, 0, none⟩) N N) := by rw [World.cell?_of_block (h7 O hOp)]; exact p1
    have H7 := Lib.hid h7
    have H7P := Lib.hid h7p
    have H7S := Lib.hid h7s
    refine hK.out _ _ ⟨k1, q0, q1⟩ (fun hHeld2 => ?_)
    clear hW7 h7 h7p h7s hHeld hHeld2 hK K p0 p1 d0 d1 g0 hb6
    refine wpAnyH_done (by kernel_rfl) ?_ _
    go_wp2_with fail
    go_ret
    have hz5 := HNO.out.b.size
    have hs1 := HNO.out.s1
    have hs2 := HNO.out.s2
    have hc1 := HNO.out.c1
    have hc2 := HNO.out.c2
    have hsc := HNO.out.sc
    have hz6 := HT.out.size
    have hz7 := H7S.out.size
    have hset : ∀ g, g ≠ mb → (W7.setCell ⟨mb, 0, none⟩ (.int .i64 (m + 1))).heap[g]? = W7.heap[g]? := fun g hg => Below.heap_setCell _ _ _ _ hg
    have hcc : W6.heap[c]? = W5.heap[c]? := HT.out.block c hc2 hsc.symm
    have hc7 : (W7.setCell ⟨mb, 0, none⟩ (.int .i64 (m + 1))).heap[c]? = W5.heap[c]? := by rw [hset c (by omega), H7.out c (by omega), hcc]
    have hs7 : (W7.setCell ⟨mb, 0, none⟩ (.int .i64 (m + 1))).heap[s]? = W6.heap[s]? := by rw [hset s (by omega), H7.out s (by omega)]
    have hmade : Made w (W7.setCell ⟨mb, 0, none⟩ (.int .i64 (m + 1))) mb pb m N es clk L s c := by
      refine ⟨⟨?_, ?_, ?_, ?_, hne⟩, ?_, ?_, ?_, hs1, hc1, ?_, ?_, hsc, ?_, ?_, ?_, ?_, ?_⟩
      · simpa using World.cell?_setCell_same _ _ _ k0
      · rw [World.cell?_setCell_other _ _ _ _ (by simp)]; exact k1
      · rw [World.frozen?_setCell]; exact k2
      · rw [hset pb hne]; exact H7P.out
      · exact fun i hi => by rw [World.cell?_of_block hs7]; exact HLAB.out i hi
      · intro i hi
        obtain ⟨e0, e1, e2, e3, e4⟩ := HNO.out.cells i hi
        exact ⟨by rw [World.cell?_of_block hc7]; exact e0, by rw [World.cell?_of_block hc7]; exact e1, by rw [World.cell?_of_block hc7]; exact e2, by rw [World.cell?_of_block hc7]; exact e3, by rw [World.cell?_of_block hc7]; exact e4⟩
      · exact fun j => by rw [World.frozen?_of_block hc7]; exact frozen_heap HNO.out.hc j
      · rw [World.size_setCell]; omega
      · rw [World.size_setCell]; omega
      · intro g hg h1 h2
        rw [hset g h1, H7.out g h2, HT.out.block g (by omega) (by omega), HNO.out.b.block g hg]
      · exact H7S.out.os.trans (HT.out.os.trans HNO.out.b.os)
      · exact H7S.out.tape.trans (HT.out.tape.trans HNO.out.b.tape)
      · exact H7S.out.output.trans (HT.out.output.trans HNO.out.b.output)
      · rw [World.size_setCell]; omega
    exact ⟨rfl, s, c, hmade⟩

/-- What the first Make leaves: the map is new. -/
structure Made1 (w w' : World) (mb N : Nat) (L : Nat → Bool) (pb s c : Nat) : Prop where
  mem : MemAt w' mb pb 1 #[{ key := .int .i64 0, val := objV s 0 c 0 N, born := 0 }] 1
  labs : Labs w' s 0 N L
  cells : Cells5 w' c 0 N (fun _ => ⟨0, 0, 0, 0, 0⟩)
  fz : ∀ j, w'.frozen? ⟨c, j, none⟩ = false
  p1 : w.heap.size ≤ pb
  s1 : w.heap.size ≤ s
  c1 : w.heap.size ≤ c
  s2 : s < w'.heap.size
  c2 : c < w'.heap.size
  sc : s ≠ c
  sp : s ≠ pb
  cp : c ≠ pb
  keep : ∀ g, g < w.heap.size → g ≠ mb → w'.heap[g]? = w.heap[g]?
  os : w'.os = w.os
  tape : w'.tape = w.tape
  output : w'.output = w.output
  size : w.heap.size ≤ w'.heap.size
set_option maxRecDepth 100000 in
set_option maxHeartbeats 16000000 in
theorem make_first (mb N : Nat) (hN : N ≤ 1000000) (la lo lc : Nat) (L : Nat → Bool) (w : World) (c0 : w.cell? ⟨mb, 0, none⟩ = some (.int .i64 0)) (c1 : w.cell? ⟨mb, 1, none⟩ = some (.map none)) (f0 : w.frozen? ⟨mb, 0, none⟩ = false) (f1 : w.frozen? ⟨mb, 1, none⟩ = false) (hL : Labs w la lo N L) (hla : la < w.heap.size) (hlm : la ≠ mb) :
    Calls Try.prog 21 #[.pointer (some ⟨mb, 0, none⟩), .slice (some ⟨la, lo, none⟩) N lc] w fun e w' => e = .returned (.int .i64 0) ∧ ∃ pb s c, Made1 w w' mb N L pb s c := by
  have hmb := World.block_lt_of_cell? w _ c0
  simp at hmb
  have hm1 := fun w => make_bools N (by omega) w
  have hm2 := fun w => make_cells N (by omega) w
  have hmq := fun w => map_eq w none
  have hmm := @run_makeMap Try.prog
  go_enter Try.func21, Try.ntmps21
  go_upto_region 5 with fail
  generalize hU : (w.setCell ⟨mb, 1, none⟩ (.map (some w.heap.size))).alloc (.map #[] 0) = U
  obtain ⟨pb, hpbe⟩ : ∃ pb, pb = w.heap.size := ⟨_, rfl⟩
  obtain ⟨m, hm0⟩ : ∃ m : Nat, m = 0 := ⟨_, rfl⟩
  rw [← hpbe] at hU
  have hzU : U.heap.size = w.heap.size + 1 := by rw [← hU]; simp
  have hkU : ∀ g, g < w.heap.size → g ≠ mb → U.heap[g]? = w.heap[g]? := fun g h1 h2 => by
    rw [← hU, Below.heap_alloc _ _ _ (by rw [World.size_setCell]; exact h1)]; exact Below.heap_setCell _ _ _ _ h2
  have hbU : U.heap[pb]? = some (.map #[] 0) := by
    have := alloc_at (w.setCell ⟨mb, 1, none⟩ (.map (some pb))) (.map #[] 0)
    rw [World.size_setCell, ← hpbe] at this
    rw [← hU]; exact this
  have e0 : U.cell? ⟨mb, 0, none⟩ = some (.int .i64 m) := by
    rw [← hU, World.cell?_alloc_lt _ _ _ (by rw [World.size_setCell]; exact hmb), World.cell?_setCell_other _ _ _ _ (by simp), hm0]; exact c0
  have e1 : U.cell? ⟨mb, 1, none⟩ = some (.map (some pb)) := by
    rw [← hU, World.cell?_alloc_lt _ _ _ (by rw [World.size_setCell]; exact hmb)]; exact World.cell?_setCell_same _ _ _ c1
  have g0 : U.frozen? ⟨mb, 0, none⟩ = false := by
    rw [← hU, ((Below.refl _ _).alloc (Nat.le_refl _) _).frozen (by rw [World.size_setCell]; exact hmb), World.frozen?_setCell]; exact f0
  have hLU : Labs U la lo N L := fun i hi => by rw [World.cell?_of_block (hkU la hla hlm)]; exact hL i hi
  have HOS := Lib.hid (show U.os = w.os ∧ U.tape = w.tape ∧ U.output = w.output by rw [← hU]; exact ⟨rfl, rfl, rfl⟩)
  have HL := Lib.hid hLU
  have HBP := Lib.hid hbU
  have HF := Lib.hid (show Instr.findNow (.int .i64) (.int .i64 m) (#[] : Array MapEntry).toList 0 = some none from rfl)
  have HC0 := Lib.hid e0
  have HC1 := Lib.hid e1
  have HF0 := Lib.hid g0
  have HK := Lib.hid hkU
  have HM := Lib.hid hm0
  have HZU := Lib.hid hzU
  have HPE := Lib.hid hpbe
  have hm : m ≤ 1000000 := by omega
  have hne : pb ≠ mb := by omega
  have hlaU : la < U.heap.size := by omega
  have hmbU : mb < U.heap.size := by omega
  have hpbU : pb < U.heap.size := by omega
  rw [← hpbe]
  clear hU hL hLU hbU e0 e1 g0 hkU hm0 hzU hpbe c0 c1 f0 f1
  go_cut [5] (fun s5 wx => ∃ (W5 : World) (s c O : Nat), W5 = wx ∧ s5 = .pointer (some ⟨O, 0, none⟩) ∧ NewObj U wx s c O N)
  case first =>
    go_region
    all_goals go_wp2_with fail
    all_goals go_meet
    · exact ⟨_, U.heap.size, U.heap.size + 1, U.heap.size + 2, rfl, rfl, newObj3 U N _ _ _ 0 1 2 (by omega) (by omega) (by omega) (by omega) (by omega) (by omega) rfl rfl rfl⟩
    · exact ⟨_, U.heap.size, U.heap.size + 2, U.heap.size + 1, rfl, rfl, newObj3 U N _ _ _ 0 2 1 (by omega) (by omega) (by omega) (by omega) (by omega) (by omega) rfl rfl rfl⟩
    · exact ⟨_, U.heap.size + 1, U.heap.size, U.heap.size + 2, rfl, rfl, newObj3 U N _ _ _ 1 0 2 (by omega) (by omega) (by omega) (by omega) (by omega) (by omega) rfl rfl rfl⟩
    · exact ⟨_, U.heap.size + 2, U.heap.size, U.heap.size + 1, rfl, rfl, newObj3 U N _ _ _ 2 0 1 (by omega) (by omega) (by omega) (by omega) (by omega) (by omega) rfl rfl rfl⟩
    · exact ⟨_, U.heap.size + 1, U.heap.size + 2, U.heap.size, rfl, rfl, newObj3 U N _ _ _ 1 2 0 (by omega) (by omega) (by omega) (by omega) (by omega) (by omega) rfl rfl rfl⟩
    · exact ⟨_, U.heap.size + 2, U.heap.size + 1, U.heap.size, rfl, rfl, newObj3 U N _ _ _ 2 1 0 (by omega) (by omega) (by omega) (by omega) (by omega) (by omega) rfl rfl rfl⟩
  case rest =>
    obtain ⟨W5, s, c, O, rfl, rfl, hno⟩ := hcut
    have HNO := Lib.hid hno
    have hcl : ((List.range N).map (fun i => Value.bool (L i))).length = N := by simp
    have hcp := run_copy_cells (P := Try.prog) W5 28 28 3 4 s 0 N N ⟨la, lo, none⟩ N lc ((List.range N).map (fun i => Value.bool (L i))) Try.underlying28 (by kernel_rfl) (by simp) (fun j v hv => by
        have hj : j < N := by
          rcases Nat.lt_or_ge j N with h | h
          · exact h
          · rw [List.getElem?_eq_none (by simpa using h)] at hv; cases hv
        have := (HL.out.below HNO.out.b hlaU) j hj
        rw [show (⟨la, lo, none⟩ : Addr).add j = ⟨la, lo + j, none⟩ from by unfold Addr.add; split <;> simp_all, this]
        simpa [hj] using hv) (fun j hj => by
        rw [Nat.zero_add, cell_heap HNO.out.hs]
        simp [madeCells] at hj ⊢
        exact hj) (fun j hj => frozen_heap HNO.out.hs _) (by simp [Value.oneCell'])
    rw [hcl] at hcp
    have o0 : W5.cell? ⟨O, 0, none⟩ = some (.slice (some ⟨s, 0, none⟩) N N) := by rw [cell_heap HNO.out.ho]; rfl
    clear hno hm1 hm2
    go_upto_region 7 with fail
    generalize hW6 : W5.setCells s 0 ((List.range N).map (fun i => Value.bool (L i))) = W6
    have hT : Turn s W5 W6 := by rw [← hW6]; exact Turn.setCells _ _ _ _
    have hlab : Labs W6 s 0 N L := fun i hi => by
      rw [← hW6]
      have := World.cell?_setCells_in s ((List.range N).map (fun i => Value.bool (L i))) 0 W5 (fun j hj => by
        rw [Nat.zero_add, cell_heap HNO.out.hs]
        simp [madeCells] at hj ⊢
        exact hj) i (by simpa using hi)
      rw [this]; simp
    have HT := Lib.hid hT
    have HLAB := Lib.hid hlab
    have hz5 := HNO.out.b.size
    have hO1 := HNO.out.o1
    have hO2 := HNO.out.o2
    have hOs := HNO.out.so
    have hs1 := HNO.out.s1
    have hmbs : mb ≠ s := by omega
    have hOp : O ≠ pb := by omega
    have hpbs : pb ≠ s := by omega
    have d0 : W6.cell? ⟨mb, 0, none⟩ = some (.int .i64 m) := by rw [hT.cell (by show mb < W5.heap.size; omega) (by exact hmbs), HNO.out.b.cell (by exact hmbU)]; exact HC0.out
    have d1 : W6.cell? ⟨mb, 1, none⟩ = some (.map (some pb)) := by rw [hT.cell (by show mb < W5.heap.size; omega) (by exact hmbs), HNO.out.b.cell (by exact hmbU)]; exact HC1.out
    have g0 : W6.frozen? ⟨mb, 0, none⟩ = false := by rw [World.frozen?_of_block (hT.block mb (by omega) hmbs), HNO.out.b.frozen (by exact hmbU)]; exact HF0.out
    have hb6 : W6.heap[pb]? = some (.map #[] 0) := by rw [hT.block pb (by omega) hpbs, HNO.out.b.block pb hpbU]; exact HBP.out
    have p0 : W6.cell? ⟨O, 0, none⟩ = some (.slice (some ⟨s, 0, none⟩) N N) := by rw [hT.cell (by exact hO2) (by exact hOs.symm)]; exact o0
    have p1 : W6.cell? ⟨O, 1, none⟩ = some (.slice (some ⟨c, 0, none⟩) N N) := by rw [hT.cell (by exact hO2) (by exact hOs.symm), cell_heap HNO.out.ho]; rfl
    have hnew := Lib.hid (fun (U' : World) (hb : U'.heap[pb]? = some (.map #[] 0)) => run_new' U' pb #[] 0 hb m (.agg #[.slice (some ⟨s, 0, none⟩) N N, .slice (some ⟨c, 0, none⟩) N N]) HF.out)
    have SD : Hid (W6.drew.cell? ⟨mb, 1, none⟩ = some (.map (some pb)) ∧ W6.drew.cell? ⟨O, 0, none⟩ = some (.slice (some ⟨s, 0, none⟩) N N) ∧ W6.drew.cell? ⟨O, 1, none⟩ = some (.slice (some ⟨c, 0, none⟩) N N)) := Lib.hid ⟨d1, p0, p1⟩
    have HD0 := Lib.hid d0
    have HG0 := Lib.hid g0
    have HB6 := Lib.hid hb6
    clear hW6 hT hlab hcp hcl o0 hz5 hO1 hO2 hOs hs1 hmbs hpbs
    go_upto_region 8 with fail
    refine wp_region_held_drew (S := (fun U' => U'.cell? ⟨mb, 1, none⟩ = some (.map (some pb)) ∧ U'.cell? ⟨O, 0, none⟩ = some (.slice (some ⟨s, 0, none⟩) N N) ∧ U'.cell? ⟨O, 1, none⟩ = some (.slice (some ⟨c, 0, none⟩) N N))) (by kernel_rfl) (by exact SD.out) (fun hHeld => ?_)
    refine takeD (i := 0) (d := 33) (v := ?_) rfl rfl (by kernel_rfl) (by kernel_rfl) (by kernel_rfl) (fun _ _ _ h => h) (Or.inl ⟨by rfl, ?_⟩) (by assumption) ?_
    rotate_left
    · intro U hSw
      (try dsimp only at hSw)
      go_simp
      (try with_reducible rfl)
    (try simp only [Act.put, List.setIfInBounds_toArray, List.set_cons_zero, List.set_cons_succ])
    refine takeD (i := 1) (d := 34) (v := ?_) rfl rfl (by kernel_rfl) (by kernel_rfl) (by kernel_rfl) (fun _ _ _ h => h) (Or.inl ⟨by rfl, ?_⟩) (by assumption) ?_
    rotate_left
    · intro U hSw
      (try dsimp only at hSw)
      go_simp
      (try with_reducible rfl)
    (try simp only [Act.put, List.setIfInBounds_toArray, List.set_cons_zero, List.set_cons_succ])
    refine takeD (i := 2) (d := 35) (v := ?_) rfl rfl (by kernel_rfl) (by kernel_rfl) (by kernel_rfl) (fun _ _ _ h => h) (Or.inl ⟨by rfl, ?_⟩) (by assumption) ?_
    rotate_left
    · intro U hSw
      (try dsimp only at hSw)
      go_simp
      (try with_reducible rfl)
    (try simp only [Act.put, List.setIfInBounds_toArray, List.set_cons_zero, List.set_cons_succ])
    refine takeD (i := 3) (d := 36) (v := ?_) rfl rfl (by kernel_rfl) (by kernel_rfl) (by kernel_rfl) (fun _ _ _ h => h) (Or.inl ⟨by rfl, ?_⟩) (by assumption) ?_
    rotate_left
    · intro U hSw
      (try dsimp only at hSw)
      go_simp
      (try with_reducible rfl)
    (try simp only [Act.put, List.setIfInBounds_toArray, List.set_cons_zero, List.set_cons_succ])
    refine takeD (i := 4) (d := 37) (v := ?_) rfl rfl (by kernel_rfl) (by kernel_rfl) (by kernel_rfl) (fun _ _ _ h => h) (Or.inl ⟨by rfl, ?_⟩) (by assumption) ?_
    rotate_left
    · intro U hSw
      (try dsimp only at hSw)
      go_simp
      (try with_reducible rfl)
    (try simp only [Act.put, List.setIfInBounds_toArray, List.set_cons_zero, List.set_cons_succ])
    refine takeD (i := 5) (d := 38) (v := ?_) rfl rfl (by kernel_rfl) (by kernel_rfl) (by kernel_rfl) (fun _ _ _ h => h) (Or.inl ⟨by rfl, ?_⟩) (by assumption) ?_
    rotate_left
    · intro U hSw
      (try dsimp only at hSw)
      go_simp
      (try with_reducible rfl)
    (try simp only [Act.put, List.setIfInBounds_toArray, List.set_cons_zero, List.set_cons_succ])
    refine wpAnyH_ready (rs := [6]) (by kernel_rfl) (by simp) ?_
    refine AllReadyH.cons rfl (fun K hK => ?_) AllReadyH.nil
    go_simp
    rw [hnew.out W6.drew hb6]
    go_simp
    generalize hW7 : mapSet W6.drew pb (.map (#[{ key := .int .i64 m, val := (.agg #[.slice (some ⟨s, 0, none⟩) N N, .slice (some ⟨c, 0, none⟩) N N]), born := 0 }]) 1) = W7
    have h7 : ∀ g, g ≠ pb → W7.heap[g]? = W6.heap[g]? := fun g hg => by rw [← hW7]; exact mapSet_other _ _ _ _ hg
    have h7p : W7.heap[pb]? = some (.map (#[{ key := .int .i64 m, val := (.agg #[.slice (some ⟨s, 0, none⟩) N N, .slice (some ⟨c, 0, none⟩) N N]), born := 0 }]) 1) := by rw [← hW7]; exact mapSet_at _ _ _ hb6
    have h7s : Outer W6 W7 := by rw [← hW7]; exact ⟨rfl, rfl, rfl, by simp [mapSet]⟩
    have k0 : W7.cell? ⟨mb, 0, none⟩ = some (.int .i64 m) := by rw [World.cell?_of_block (h7 mb hne.symm)]; exact d0
    have k1 : W7.cell? ⟨mb, 1, none⟩ = some (.map (some pb)) := by rw [World.cell?_of_block (h7 mb hne.symm)]; exact d1
    have k2 : W7.frozen? ⟨mb, 0, none⟩ = false := by rw [World.frozen?_of_block (h7 mb hne.symm)]; exact g0
    have q0 : W7.cell? ⟨O, 0, none⟩ = some (.slice (some ⟨s, 0, none⟩) N N) := by rw [World.cell?_of_block (h7 O hOp)]; exact p0
    have q1 : W7.cell? ⟨O, 1, none⟩ = some (.slice (some ⟨c, 0, none⟩) N N) := by rw [World.cell?_of_block (h7 O hOp)]; exact p1
    have H7 := Lib.hid h7
    have H7P := Lib.hid h7p
    have H7S := Lib.hid h7s
    refine hK.out _ _ ⟨k1, q0, q1⟩ (fun hHeld2 => ?_)
    clear hW7 h7 h7p h7s hHeld hHeld2 hK K p0 p1 d0 d1 g0 hb6
    refine wpAnyH_done (by kernel_rfl) ?_ _
    go_wp2_with fail
    go_ret
    have hz5 := HNO.out.b.size
    have hs1 := HNO.out.s1
    have hs2 := HNO.out.s2
    have hc1 := HNO.out.c1
    have hc2 := HNO.out.c2
    have hsc := HNO.out.sc
    have hz6 := HT.out.size
    have hz7 := H7S.out.size
    have hset : ∀ g, g ≠ mb → (W7.setCell ⟨mb, 0, none⟩ (.int .i64 (m + 1))).heap[g]? = W7.heap[g]? := fun g hg => Below.heap_setCell _ _ _ _ hg
    have hcc : W6.heap[c]? = W5.heap[c]? := HT.out.block c hc2 hsc.symm
    have hc7 : (W7.setCell ⟨mb, 0, none⟩ (.int .i64 (m + 1))).heap[c]? = W5.heap[c]? := by rw [hset c (by omega), H7.out c (by omega), hcc]
    have hs7 : (W7.setCell ⟨mb, 0, none⟩ (.int .i64 (m + 1))).heap[s]? = W6.heap[s]? := by rw [hset s (by omega), H7.out s (by omega)]
    have hmade : Made U (W7.setCell ⟨mb, 0, none⟩ (.int .i64 (m + 1))) mb pb m N #[] 0 L s c := by
      refine ⟨⟨?_, ?_, ?_, ?_, hne⟩, ?_, ?_, ?_, hs1, hc1, ?_, ?_, hsc, ?_, ?_, ?_, ?_, ?_⟩
      · simpa using World.cell?_setCell_same _ _ _ k0
      · rw [World.cell?_setCell_other _ _ _ _ (by simp)]; exact k1
      · rw [World.frozen?_setCell]; exact k2
      · rw [hset pb hne]; exact H7P.out
      · exact fun i hi => by rw [World.cell?_of_block hs7]; exact HLAB.out i hi
      · intro i hi
        obtain ⟨e0, e1, e2, e3, e4⟩ := HNO.out.cells i hi
        exact ⟨by rw [World.cell?_of_block hc7]; exact e0, by rw [World.cell?_of_block hc7]; exact e1, by rw [World.cell?_of_block hc7]; exact e2, by rw [World.cell?_of_block hc7]; exact e3, by rw [World.cell?_of_block hc7]; exact e4⟩
      · exact fun j => by rw [World.frozen?_of_block hc7]; exact frozen_heap HNO.out.hc j
      · rw [World.size_setCell]; omega
      · rw [World.size_setCell]; omega
      · intro g hg h1 h2
        rw [hset g h1, H7.out g h2, HT.out.block g (by omega) (by omega), HNO.out.b.block g hg]
      · exact H7S.out.os.trans (HT.out.os.trans HNO.out.b.os)
      · exact H7S.out.tape.trans (HT.out.tape.trans HNO.out.b.tape)
      · exact H7S.out.output.trans (HT.out.output.trans HNO.out.b.output)
      · rw [World.size_setCell]; omega
    have hz := HZU.out
    have hp := HPE.out
    have h0 := HM.out
    refine ⟨by rw [h0]; rfl, pb, s, c, ⟨?_, hmade.labs, hmade.cells, hmade.fz, by omega, by omega, by omega, hmade.s2, hmade.c2, hmade.sc, by omega, by omega, ?_, ?_, ?_, ?_, ?_⟩⟩
    · have hmem := hmade.mem
      rw [h0] at hmem ⊢
      exact hmem
    · intro g h1 h2
      rw [hmade.keep g (by omega) h2 (by omega)]; exact HK.out g h1 h2
    · exact hmade.os.trans HOS.out.1
    · exact hmade.tape.trans HOS.out.2.1
    · exact hmade.output.trans HOS.out.2.2
    · have := hmade.size; omega
end Go.Proofs.Ytdkhanjfncbfnaa
