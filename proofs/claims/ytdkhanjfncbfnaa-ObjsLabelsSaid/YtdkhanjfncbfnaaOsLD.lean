import Derived.Test.YtdkhanjfncbfnaaOsLC
namespace Go.Proofs.Ytdkhanjfncbfnaa
open Go Go.RowKit
set_option linter.unusedVariables false
set_option linter.unusedSimpArgs false

set_option maxRecDepth 100000 in
set_option maxHeartbeats 8000000 in
theorem mark_arr (T : Tb) (hlay : LayT T) (t : Ty) (ok : OkT t) (LF : Nat → Bool) (hm : MarkOk T t LF) (m N1 N hi g o cap : Nat) (hm0 : 0 < m) (hN1 : sizeM T.n T.SZ t = N1) (h10 : 0 < N1) (hNN : N = N1 * m) (hN : N ≤ cap) (hcap : cap ≤ 1000000) (b : Nat) (e2 : Option Addr) (w : World) (hk : TabK T hi w) (hg : hi ≤ g) (hgl : g < w.heap.size)
    (hbl : b < w.heap.size) (hbg : b ≠ g) (hb9 : Cells9 w b 0 t e2) (he2 : ElG w g t e2) (hl : Labs w g o N (fun _ => false)) (hz : ∀ j, w.frozen? ⟨g, j, none⟩ = false) :
    Calls Try.prog 43 #[.slice (some ⟨g, o, none⟩) N cap, .pointer (some ⟨T.tb, 0, none⟩), .agg #[.int .i64 3, .int .i64 0, .bool false, .bool false, .pointer (some ⟨b, 0, none⟩), .int .i64 (m : Int), .int .i64 0, .slice none 0 0, .pointer none]] w (Paints g o N (fun i => LF (i % N1)) w) := by
  have HL := Lib.hid hl
  have HZ := Lib.hid hz
  have HK := Lib.hid hk
  have HB9 := Lib.hid hb9
  have HE2 := Lib.hid he2
  have HM := Lib.hid hm
  have HN1 := Lib.hid hN1
  have hm1 : (0 : Int) < m := by omega
  have hmne : ¬ (m : Int) = 0 := by omega
  have hdv : (N : Int).tdiv m = N1 := by
    rw [hNN, Int.tdiv_eq_ediv_of_nonneg (by omega), Int.natCast_mul]
    exact Int.mul_ediv_cancel _ hmne
  have h1N : N1 ≤ N := by rw [hNN]; exact Nat.le_mul_of_pos_right _ hm0
  have HNN := Lib.hid hNN
  have h1c : (N1 : Int) ≤ cap := by omega
  clear hl hz hk hb9 he2 hm hN1 hNN
  go_enter Try.func43, Try.ntmps43
  go_upto_region 11 with fail
  generalize hW4 : w.alloc (.cells #[.int .i64 3, .int .i64 0, .bool false, .bool false, .pointer (some ⟨b, 0, none⟩), .int .i64 (m : Int), .int .i64 0, .slice none 0 0, .pointer none] 57) = W4
  obtain ⟨X, hX⟩ : ∃ X, X = w.heap.size := ⟨_, rfl⟩
  rw [← hX]
  have hb4 : Below w.heap.size w W4 := by rw [← hW4]; exact (Below.refl _ _).alloc (Nat.le_refl _) _
  have hs4 : W4.heap.size = w.heap.size + 1 := by rw [← hW4]; simp
  have x4 : W4.cell? ⟨X, 4, none⟩ = some (.pointer (some ⟨b, 0, none⟩)) := by rw [← hW4, hX]; exact cell_new _ _ _ _ _ rfl
  have HB4 := Lib.hid hb4
  have HBD : Hid (Below w.heap.size w W4.drew) := Lib.hid hb4.drew
  have hszd : W4.drew.heap.size = w.heap.size + 1 := hs4
  have HXL := Lib.hid (show X < W4.drew.heap.size ∧ X ≠ g ∧ b < W4.drew.heap.size ∧ b ≠ g from by omega)
  have hgd : g < W4.drew.heap.size := by omega
  have HGD := Lib.hid hgd
  have MK := Lib.hid (HM.out N1 hi g o cap e2 W4.drew HN1.out (by omega) hcap (HK.out.below HBD.out) hg hgd (HE2.out.below HBD.out) (fun i hi' => (HL.out.below HBD.out hgl) i (by omega)) (fun j => by rw [HBD.out.frozen (by exact hgl)]; exact HZ.out j))
  have SD : Hid (W4.cell? ⟨X, 4, none⟩ = some (.pointer (some ⟨b, 0, none⟩)) ∧ W4.cell? ⟨b, 0, none⟩ = some (.int .i64 t.kind) ∧ W4.cell? ⟨b, 1, none⟩ = some (.int .i64 t.size) ∧ W4.cell? ⟨b, 2, none⟩ = some (.bool t.sg) ∧ W4.cell? ⟨b, 3, none⟩ = some (.bool t.sc) ∧ W4.cell? ⟨b, 4, none⟩ = some (.pointer e2) ∧ W4.cell? ⟨b, 5, none⟩ = some (.int .i64 t.len) ∧ W4.cell? ⟨b, 6, none⟩ = some (.int .i64 t.num) ∧ W4.cell? ⟨b, 7, none⟩ = some (.slice none 0 0) ∧ W4.cell? ⟨b, 8, none⟩ = some (.pointer none)) := Lib.hid (by
    obtain ⟨b0, b1, b2, b3, b4, b5, b6, b7, b8⟩ := HB9.out.below hb4 hbl
    simp only [Nat.zero_add] at b1 b2 b3 b4 b5 b6 b7 b8
    exact ⟨x4, b0, b1, b2, b3, b4, b5, b6, b7, b8⟩)
  have SE : Hid (W4.drew.cell? ⟨X, 4, none⟩ = some (.pointer (some ⟨b, 0, none⟩)) ∧ W4.drew.cell? ⟨b, 0, none⟩ = some (.int .i64 t.kind) ∧ W4.drew.cell? ⟨b, 1, none⟩ = some (.int .i64 t.size) ∧ W4.drew.cell? ⟨b, 2, none⟩ = some (.bool t.sg) ∧ W4.drew.cell? ⟨b, 3, none⟩ = some (.bool t.sc) ∧ W4.drew.cell? ⟨b, 4, none⟩ = some (.pointer e2) ∧ W4.drew.cell? ⟨b, 5, none⟩ = some (.int .i64 t.len) ∧ W4.drew.cell? ⟨b, 6, none⟩ = some (.int .i64 t.num) ∧ W4.drew.cell? ⟨b, 7, none⟩ = some (.slice none 0 0) ∧ W4.drew.cell? ⟨b, 8, none⟩ = some (.pointer none)) := Lib.hid SD.out
  clear hW4 hX hb4 hs4 hszd x4 hgd
  refine wp_region_held_drew (S := (fun w' => w'.cell? ⟨X, 4, none⟩ = some (.pointer (some ⟨b, 0, none⟩)) ∧ w'.cell? ⟨b, 0, none⟩ = some (.int .i64 t.kind) ∧ w'.cell? ⟨b, 1, none⟩ = some (.int .i64 t.size) ∧ w'.cell? ⟨b, 2, none⟩ = some (.bool t.sg) ∧ w'.cell? ⟨b, 3, none⟩ = some (.bool t.sc) ∧ w'.cell? ⟨b, 4, none⟩ = some (.pointer e2) ∧ w'.cell? ⟨b, 5, none⟩ = some (.int .i64 t.len) ∧ w'.cell? ⟨b, 6, none⟩ = some (.int .i64 t.num) ∧ w'.cell? ⟨b, 7, none⟩ = some (.slice none 0 0) ∧ w'.cell? ⟨b, 8, none⟩ = some (.pointer none))) (by kernel_rfl) (by (first | (with_reducible exact SD.out) | (with_reducible exact SE.out))) (fun hHeld => ?_)
  refine takeD (i := 0) (d := 35) (v := ?_) rfl rfl (by kernel_rfl) (by kernel_rfl) (by kernel_rfl) (fun _ _ _ h => h) (Or.inl ⟨by rfl, ?_⟩) (by assumption) ?_
  rotate_left
  · intro w hSw
    obtain ⟨x4, b0, b1, b2, b3, b4, b5, b6, b7, b8⟩ := hSw
    go_simp
    (try with_reducible rfl)
  (try simp only [Act.put, List.setIfInBounds_toArray, List.set_cons_zero, List.set_cons_succ])
  refine takeD (i := 1) (d := 36) (v := ?_) rfl rfl (by kernel_rfl) (by kernel_rfl) (by kernel_rfl) (fun _ _ _ h => h) (Or.inl ⟨by rfl, ?_⟩) (by assumption) ?_
  rotate_left
  · intro w hSw
    obtain ⟨x4, b0, b1, b2, b3, b4, b5, b6, b7, b8⟩ := hSw
    go_simp
    (try with_reducible rfl)
  (try simp only [Act.put, List.setIfInBounds_toArray, List.set_cons_zero, List.set_cons_succ])
  refine takeD (i := 2) (d := 37) (v := ?_) rfl rfl (by kernel_rfl) (by kernel_rfl) (by kernel_rfl) (fun _ _ _ h => h) (Or.inl ⟨by rfl, ?_⟩) (by assumption) ?_
  rotate_left
  · intro w hSw
    obtain ⟨x4, b0, b1, b2, b3, b4, b5, b6, b7, b8⟩ := hSw
    go_simp
    (try with_reducible rfl)
  (try simp only [Act.put, List.setIfInBounds_toArray, List.set_cons_zero, List.set_cons_succ])
  refine takeD (i := 3) (d := 38) (v := ?_) rfl rfl (by kernel_rfl) (by kernel_rfl) (by kernel_rfl) (fun _ _ _ h => h) (Or.inl ⟨by rfl, ?_⟩) (by assumption) ?_
  rotate_left
  · intro w hSw
    obtain ⟨x4, b0, b1, b2, b3, b4, b5, b6, b7, b8⟩ := hSw
    go_simp
    (try with_reducible rfl)
  (try simp only [Act.put, List.setIfInBounds_toArray, List.set_cons_zero, List.set_cons_succ])
  refine takeD (i := 4) (d := 39) (v := ?_) rfl rfl (by kernel_rfl) (by kernel_rfl) (by kernel_rfl) (fun _ _ _ h => h) (Or.inl ⟨by rfl, ?_⟩) (by assumption) ?_
  rotate_left
  · intro w hSw
    obtain ⟨x4, b0, b1, b2, b3, b4, b5, b6, b7, b8⟩ := hSw
    go_simp
    (try with_reducible rfl)
  (try simp only [Act.put, List.setIfInBounds_toArray, List.set_cons_zero, List.set_cons_succ])
  refine takeD (i := 5) (d := 40) (v := ?_) rfl rfl (by kernel_rfl) (by kernel_rfl) (by kernel_rfl) (fun _ _ _ h => h) (Or.inl ⟨by rfl, ?_⟩) (by assumption) ?_
  rotate_left
  · intro w hSw
    obtain ⟨x4, b0, b1, b2, b3, b4, b5, b6, b7, b8⟩ := hSw
    go_simp
    (try with_reducible rfl)
  (try simp only [Act.put, List.setIfInBounds_toArray, List.set_cons_zero, List.set_cons_succ])
  refine takeD (i := 6) (d := 41) (v := ?_) rfl rfl (by kernel_rfl) (by kernel_rfl) (by kernel_rfl) (fun _ _ _ h => h) (Or.inl ⟨by rfl, ?_⟩) (by assumption) ?_
  rotate_left
  · intro w hSw
    obtain ⟨x4, b0, b1, b2, b3, b4, b5, b6, b7, b8⟩ := hSw
    go_simp
    (try with_reducible rfl)
  (try simp only [Act.put, List.setIfInBounds_toArray, List.set_cons_zero, List.set_cons_succ])
  refine takeD (i := 7) (d := 42) (v := ?_) rfl rfl (by kernel_rfl) (by kernel_rfl) (by kernel_rfl) (fun _ _ _ h => h) (Or.inl ⟨by rfl, ?_⟩) (by assumption) ?_
  rotate_left
  · intro w hSw
    obtain ⟨x4, b0, b1, b2, b3, b4, b5, b6, b7, b8⟩ := hSw
    go_simp
    (try with_reducible rfl)
  (try simp only [Act.put, List.setIfInBounds_toArray, List.set_cons_zero, List.set_cons_succ])
  refine wpAnyH_ready (rs := [8]) (by kernel_rfl) (by simp) ?_
  refine AllReadyH.cons rfl (fun K hK => ?_) AllReadyH.nil
  go_simp
  have HM := MK.out
  unfold tyV at HM
  (with_reducible refine HM.mono ?_)
  rintro e w5 ⟨rfl, ht5, hl5, ho5⟩
  have HT5 := Lib.hid ht5
  have HL5 := Lib.hid hl5
  have HO5 := Lib.hid ho5
  have HDD := SE.out
  clear SD SE HM ht5 hl5 ho5
  have SD : Hid (w5.cell? ⟨X, 4, none⟩ = some (.pointer (some ⟨b, 0, none⟩)) ∧ w5.cell? ⟨b, 0, none⟩ = some (.int .i64 t.kind) ∧ w5.cell? ⟨b, 1, none⟩ = some (.int .i64 t.size) ∧ w5.cell? ⟨b, 2, none⟩ = some (.bool t.sg) ∧ w5.cell? ⟨b, 3, none⟩ = some (.bool t.sc) ∧ w5.cell? ⟨b, 4, none⟩ = some (.pointer e2) ∧ w5.cell? ⟨b, 5, none⟩ = some (.int .i64 t.len) ∧ w5.cell? ⟨b, 6, none⟩ = some (.int .i64 t.num) ∧ w5.cell? ⟨b, 7, none⟩ = some (.slice none 0 0) ∧ w5.cell? ⟨b, 8, none⟩ = some (.pointer none)) := Lib.hid (by
    obtain ⟨x4, b0, b1, b2, b3, b4, b5, b6, b7, b8⟩ := HDD
    exact ⟨by rw [HT5.out.cell (by exact HXL.out.1) (by exact HXL.out.2.1)]; exact x4, by rw [HT5.out.cell (by exact HXL.out.2.2.1) (by exact HXL.out.2.2.2)]; exact b0, by rw [HT5.out.cell (by exact HXL.out.2.2.1) (by exact HXL.out.2.2.2)]; exact b1, by rw [HT5.out.cell (by exact HXL.out.2.2.1) (by exact HXL.out.2.2.2)]; exact b2, by rw [HT5.out.cell (by exact HXL.out.2.2.1) (by exact HXL.out.2.2.2)]; exact b3, by rw [HT5.out.cell (by exact HXL.out.2.2.1) (by exact HXL.out.2.2.2)]; exact b4, by rw [HT5.out.cell (by exact HXL.out.2.2.1) (by exact HXL.out.2.2.2)]; exact b5, by rw [HT5.out.cell (by exact HXL.out.2.2.1) (by exact HXL.out.2.2.2)]; exact b6, by rw [HT5.out.cell (by exact HXL.out.2.2.1) (by exact HXL.out.2.2.2)]; exact b7, by rw [HT5.out.cell (by exact HXL.out.2.2.1) (by exact HXL.out.2.2.2)]; exact b8⟩)
  clear HDD
  have SE : Hid (w5.drew.cell? ⟨X, 4, none⟩ = some (.pointer (some ⟨b, 0, none⟩)) ∧ w5.drew.cell? ⟨b, 0, none⟩ = some (.int .i64 t.kind) ∧ w5.drew.cell? ⟨b, 1, none⟩ = some (.int .i64 t.size) ∧ w5.drew.cell? ⟨b, 2, none⟩ = some (.bool t.sg) ∧ w5.drew.cell? ⟨b, 3, none⟩ = some (.bool t.sc) ∧ w5.drew.cell? ⟨b, 4, none⟩ = some (.pointer e2) ∧ w5.drew.cell? ⟨b, 5, none⟩ = some (.int .i64 t.len) ∧ w5.drew.cell? ⟨b, 6, none⟩ = some (.int .i64 t.num) ∧ w5.drew.cell? ⟨b, 7, none⟩ = some (.slice none 0 0) ∧ w5.drew.cell? ⟨b, 8, none⟩ = some (.pointer none)) := Lib.hid SD.out
  refine hK.out _ _ ?_ (fun hHeld2 => ?_)
  · (first | (with_reducible exact SD.out) | (with_reducible exact SE.out))
  clear hHeld hK K
  have hHeld := hHeld2
  clear hHeld2
  (try simp only [Act.put, List.setIfInBounds_toArray, List.set_cons_zero, List.set_cons_succ])
  refine wpAnyH_done (by kernel_rfl) ?_ _
  clear hHeld
  have hl0 : ∃ L0, Labs w5 g o N L0 := ⟨fun i => if i < N1 then LF i else false, fun i hi' => by
    by_cases h : i < N1
    · simp only [if_pos h]; exact HL5.out i h
    · simp only [if_neg h]
      rw [HO5.out (o + i) (by omega)]
      exact (HL.out.below HBD.out hgl) i hi'⟩
  obtain ⟨L0, hl0⟩ := hl0
  have RP := Lib.hid (repeat_any g o N cap N1 m LF L0 h10 HNN.out hN (by omega) h1N w5 HL5.out hl0 (fun j => HT5.out.fz j (by rw [HBD.out.frozen (by exact hgl)]; exact HZ.out j)))
  clear hl0 SD SE
  go_wp2_with fail
  (with_reducible refine RP.out.mono ?_)
  rintro e w6 ⟨rfl, ht6, hl6, ho6⟩
  have HT6 := Lib.hid ht6
  have HL6 := Lib.hid hl6
  have HO6 := Lib.hid ho6
  clear ht6 hl6 ho6 RP
  go_wp2_with fail
  go_end0
  exact ⟨rfl, ((Turn.of HBD.out hgl).trans HT5.out).trans HT6.out, HL6.out, fun j hj => by
    rw [HO6.out j hj, HO5.out j (by omega)]
    exact HBD.out.cell (by exact hgl)⟩
end Go.Proofs.Ytdkhanjfncbfnaa
