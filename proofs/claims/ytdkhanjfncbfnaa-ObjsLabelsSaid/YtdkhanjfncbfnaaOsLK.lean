import Derived.Test.YtdkhanjfncbfnaaOsLJ
namespace Go.Proofs.Ytdkhanjfncbfnaa
open Go Go.RowKit
set_option linter.unusedVariables false
set_option linter.unusedSimpArgs false

def PaintZ (T : Tb) (t : Ty) : Prop := ∀ (hi : Nat) (la : Option Addr) (len cap at_ : Nat) (el : Option Addr) (w : World), at_ ≤ 1000000 → TabK T hi w → ElW w t el →
  Calls Try.prog 19 #[.pointer (some ⟨T.tb, 0, none⟩), tyV t el, .slice la len cap, .int .i64 (at_ : Int)] w fun e w' => e = .returned (.tuple #[]) ∧ Below w.heap.size w w'

set_option maxRecDepth 100000 in
set_option maxHeartbeats 8000000 in
theorem paintz_arr {m0 : Nat} (T : Tb) (hlay : LayT T) (t : Ty) (ok : OkT t) (hp : 0 < m0 → PaintZ T t) (m : Nat) (hm0 : m = m0) (hm20 : m ≤ 1000000) (hN1 : 0 < m0 → sizeM T.n T.SZ t = 0) (hi : Nat) (la : Option Addr) (len cap at_ : Nat) (hat : at_ ≤ 1000000) (b : Nat) (e2 : Option Addr) (w : World) (hk : TabK T hi w)
    (hbl : b < w.heap.size) (hb9 : Cells9 w b 0 t e2) (he2 : ElW w t e2) :
    Calls Try.prog 19 #[.pointer (some ⟨T.tb, 0, none⟩), .agg #[.int .i64 3, .int .i64 0, .bool false, .bool false, .pointer (some ⟨b, 0, none⟩), .int .i64 (m : Int), .int .i64 0, .slice none 0 0, .pointer none], .slice la len cap, .int .i64 (at_ : Int)] w fun e w' => e = .returned (.tuple #[]) ∧ Below w.heap.size w w' := by
  subst hm0
  have HK := Lib.hid hk
  have HB9 := Lib.hid hb9
  have HE2 := Lib.hid he2
  have HPA := Lib.hid hp
  have HN1 := Lib.hid hN1
  clear hk hb9 he2 hp hN1
  go_enter Try.func19, Try.ntmps19
  go_wp2_with fail
  generalize hW4 : w.alloc (.cells #[.int .i64 3, .int .i64 0, .bool false, .bool false, .pointer (some ⟨b, 0, none⟩), .int .i64 (m : Int), .int .i64 0, .slice none 0 0, .pointer none] 57) = W4
  obtain ⟨X, hX⟩ : ∃ X, X = w.heap.size := ⟨_, rfl⟩
  rw [← hX]
  have hb4 : Below w.heap.size w W4 := by rw [← hW4]; exact (Below.refl _ _).alloc (Nat.le_refl _) _
  have hs4 : W4.heap.size = w.heap.size + 1 := by rw [← hW4]; simp
  have HX4 : Hid (W4.cell? ⟨X, 4, none⟩ = some (.pointer (some ⟨b, 0, none⟩))) := Lib.hid (by rw [← hW4, hX]; exact cell_new _ _ _ _ _ rfl)
  have HB4 := Lib.hid hb4
  have HXL := Lib.hid (show X < W4.heap.size from by omega)
  have HBL := Lib.hid hbl
  clear hW4 hX hb4 hs4
  go_loopw [33] (fun s33 wr => ∃ i : Nat, s33 = .int .i64 i ∧ i ≤ m ∧ Hid (Below W4.heap.size W4 wr)) (fun s33 _ => m - (intOf s33).toNat)
  case atStart => exact ⟨0, rfl, by omega, Lib.hid (Below.refl _ _)⟩
  case round =>
    obtain ⟨i, rfl, hi2, HT⟩ := hrel
    by_cases hlt : i < m
    · have hil : (i : Int) < m := by omega
      have HBD : Hid (Below wr.heap.size wr wr.drew) := Lib.hid (Below.refl _ _).drew
      have hbR : Below w.heap.size w wr := HB4.out.trans (HT.out.mono HB4.out.size)
      have HKR := Lib.hid (HK.out.below hbR)
      have HER := Lib.hid (HE2.out.below hbR)
      have SD : Hid (wr.cell? ⟨X, 4, none⟩ = some (.pointer (some ⟨b, 0, none⟩)) ∧ wr.cell? ⟨b, 0, none⟩ = some (.int .i64 t.kind) ∧ wr.cell? ⟨b, 1, none⟩ = some (.int .i64 t.size) ∧ wr.cell? ⟨b, 2, none⟩ = some (.bool t.sg) ∧ wr.cell? ⟨b, 3, none⟩ = some (.bool t.sc) ∧ wr.cell? ⟨b, 4, none⟩ = some (.pointer e2) ∧ wr.cell? ⟨b, 5, none⟩ = some (.int .i64 t.len) ∧ wr.cell? ⟨b, 6, none⟩ = some (.int .i64 t.num) ∧ wr.cell? ⟨b, 7, none⟩ = some (.slice none 0 0) ∧ wr.cell? ⟨b, 8, none⟩ = some (.pointer none)) := Lib.hid (by
        obtain ⟨b0, b1, b2, b3, b4, b5, b6, b7, b8⟩ := HB9.out.below hbR HBL.out
        simp only [Nat.zero_add] at b1 b2 b3 b4 b5 b6 b7 b8
        exact ⟨by rw [HT.out.cell (by exact HXL.out)]; exact HX4.out, b0, b1, b2, b3, b4, b5, b6, b7, b8⟩)
      have SE : Hid (wr.drew.cell? ⟨X, 4, none⟩ = some (.pointer (some ⟨b, 0, none⟩)) ∧ wr.drew.cell? ⟨b, 0, none⟩ = some (.int .i64 t.kind) ∧ wr.drew.cell? ⟨b, 1, none⟩ = some (.int .i64 t.size) ∧ wr.drew.cell? ⟨b, 2, none⟩ = some (.bool t.sg) ∧ wr.drew.cell? ⟨b, 3, none⟩ = some (.bool t.sc) ∧ wr.drew.cell? ⟨b, 4, none⟩ = some (.pointer e2) ∧ wr.drew.cell? ⟨b, 5, none⟩ = some (.int .i64 t.len) ∧ wr.drew.cell? ⟨b, 6, none⟩ = some (.int .i64 t.num) ∧ wr.drew.cell? ⟨b, 7, none⟩ = some (.slice none 0 0) ∧ wr.drew.cell? ⟨b, 8, none⟩ = some (.pointer none)) := Lib.hid SD.out
      have MSZ := Lib.hid (size_w hlay t ok e2 wr.drew (HKR.out.below HBD.out) (HER.out.below HBD.out))
      rw [HN1.out (by omega)] at MSZ
      have MP : Hid (∀ w6, Below wr.drew.heap.size wr.drew w6 → Calls Try.prog 19 #[.pointer (some ⟨T.tb, 0, none⟩), tyV t e2, .slice la len cap, .int .i64 (at_ : Int)] w6 (fun e w' => e = .returned (.tuple #[]) ∧ Below w6.heap.size w6 w')) := Lib.hid (fun w6 h6 => by
        have hb6 : Below wr.heap.size wr w6 := HBD.out.trans h6
        exact HPA.out (by omega) hi la len cap at_ e2 w6 hat (HKR.out.below hb6) (HER.out.below hb6))
      clear hbR
      go_upto_region 12 with fail
      refine wp_region_held_drew (S := (fun w' => w'.cell? ⟨X, 4, none⟩ = some (.pointer (some ⟨b, 0, none⟩)) ∧ w'.cell? ⟨b, 0, none⟩ = some (.int .i64 t.kind) ∧ w'.cell? ⟨b, 1, none⟩ = some (.int .i64 t.size) ∧ w'.cell? ⟨b, 2, none⟩ = some (.bool t.sg) ∧ w'.cell? ⟨b, 3, none⟩ = some (.bool t.sc) ∧ w'.cell? ⟨b, 4, none⟩ = some (.pointer e2) ∧ w'.cell? ⟨b, 5, none⟩ = some (.int .i64 t.len) ∧ w'.cell? ⟨b, 6, none⟩ = some (.int .i64 t.num) ∧ w'.cell? ⟨b, 7, none⟩ = some (.slice none 0 0) ∧ w'.cell? ⟨b, 8, none⟩ = some (.pointer none))) (by kernel_rfl) (by (first | (with_reducible exact SD.out) | (with_reducible exact SE.out))) (fun hHeld => ?_)
      refine takeD (i := 0) (d := 36) (v := ?_) rfl rfl (by kernel_rfl) (by kernel_rfl) (by kernel_rfl) (fun _ _ _ h => h) (Or.inl ⟨by rfl, ?_⟩) (by assumption) ?_
      rotate_left
      · intro w hSw
        obtain ⟨x4, b0, b1, b2, b3, b4, b5, b6, b7, b8⟩ := hSw
        go_simp
        (try with_reducible rfl)
      (try simp only [Act.put, List.setIfInBounds_toArray, List.set_cons_zero, List.set_cons_succ])
      refine takeD (i := 1) (d := 37) (v := ?_) rfl rfl (by kernel_rfl) (by kernel_rfl) (by kernel_rfl) (fun _ _ _ h => h) (Or.inl ⟨by rfl, ?_⟩) (by assumption) ?_
      rotate_left
      · intro w hSw
        obtain ⟨x4, b0, b1, b2, b3, b4, b5, b6, b7, b8⟩ := hSw
        go_simp
        (try with_reducible rfl)
      (try simp only [Act.put, List.setIfInBounds_toArray, List.set_cons_zero, List.set_cons_succ])
      refine takeD (i := 2) (d := 38) (v := ?_) rfl rfl (by kernel_rfl) (by kernel_rfl) (by kernel_rfl) (fun _ _ _ h => h) (Or.inl ⟨by rfl, ?_⟩) (by assumption) ?_
      rotate_left
      · intro w hSw
        obtain ⟨x4, b0, b1, b2, b3, b4, b5, b6, b7, b8⟩ := hSw
        go_simp
        (try with_reducible rfl)
      (try simp only [Act.put, List.setIfInBounds_toArray, List.set_cons_zero, List.set_cons_succ])
      refine takeD (i := 3) (d := 39) (v := ?_) rfl rfl (by kernel_rfl) (by kernel_rfl) (by kernel_rfl) (fun _ _ _ h => h) (Or.inl ⟨by rfl, ?_⟩) (by assumption) ?_
      rotate_left
      · intro w hSw
        obtain ⟨x4, b0, b1, b2, b3, b4, b5, b6, b7, b8⟩ := hSw
        go_simp
        (try with_reducible rfl)
      (try simp only [Act.put, List.setIfInBounds_toArray, List.set_cons_zero, List.set_cons_succ])
      refine takeD (i := 4) (d := 40) (v := ?_) rfl rfl (by kernel_rfl) (by kernel_rfl) (by kernel_rfl) (fun _ _ _ h => h) (Or.inl ⟨by rfl, ?_⟩) (by assumption) ?_
      rotate_left
      · intro w hSw
        obtain ⟨x4, b0, b1, b2, b3, b4, b5, b6, b7, b8⟩ := hSw
        go_simp
        (try with_reducible rfl)
      (try simp only [Act.put, List.setIfInBounds_toArray, List.set_cons_zero, List.set_cons_succ])
      refine takeD (i := 5) (d := 41) (v := ?_) rfl rfl (by kernel_rfl) (by kernel_rfl) (by kernel_rfl) (fun _ _ _ h => h) (Or.inl ⟨by rfl, ?_⟩) (by assumption) ?_
      rotate_left
      · intro w hSw
        obtain ⟨x4, b0, b1, b2, b3, b4, b5, b6, b7, b8⟩ := hSw
        go_simp
        (try with_reducible rfl)
      (try simp only [Act.put, List.setIfInBounds_toArray, List.set_cons_zero, List.set_cons_succ])
      refine takeD (i := 6) (d := 42) (v := ?_) rfl rfl (by kernel_rfl) (by kernel_rfl) (by kernel_rfl) (fun _ _ _ h => h) (Or.inl ⟨by rfl, ?_⟩) (by assumption) ?_
      rotate_left
      · intro w hSw
        obtain ⟨x4, b0, b1, b2, b3, b4, b5, b6, b7, b8⟩ := hSw
        go_simp
        (try with_reducible rfl)
      (try simp only [Act.put, List.setIfInBounds_toArray, List.set_cons_zero, List.set_cons_succ])
      refine takeD (i := 7) (d := 43) (v := ?_) rfl rfl (by kernel_rfl) (by kernel_rfl) (by kernel_rfl) (fun _ _ _ h => h) (Or.inl ⟨by rfl, ?_⟩) (by assumption) ?_
      rotate_left
      · intro w hSw
        obtain ⟨x4, b0, b1, b2, b3, b4, b5, b6, b7, b8⟩ := hSw
        go_simp
        (try with_reducible rfl)
      (try simp only [Act.put, List.setIfInBounds_toArray, List.set_cons_zero, List.set_cons_succ])
      refine takeD (i := 8) (d := 44) (v := ?_) rfl rfl (by kernel_rfl) (by kernel_rfl) (by kernel_rfl) (fun _ _ _ h => h) (Or.inl ⟨by rfl, ?_⟩) (by assumption) ?_
      rotate_left
      · intro w hSw
        obtain ⟨x4, b0, b1, b2, b3, b4, b5, b6, b7, b8⟩ := hSw
        go_simp
        (try with_reducible rfl)
      (try simp only [Act.put, List.setIfInBounds_toArray, List.set_cons_zero, List.set_cons_succ])
      refine takeD (i := 9) (d := 45) (v := ?_) rfl rfl (by kernel_rfl) (by kernel_rfl) (by kernel_rfl) (fun _ _ _ h => h) (Or.inl ⟨by rfl, ?_⟩) (by assumption) ?_
      rotate_left
      · intro w hSw
        obtain ⟨x4, b0, b1, b2, b3, b4, b5, b6, b7, b8⟩ := hSw
        go_simp
        (try with_reducible rfl)
      (try simp only [Act.put, List.setIfInBounds_toArray, List.set_cons_zero, List.set_cons_succ])
      refine takeD (i := 10) (d := 46) (v := ?_) rfl rfl (by kernel_rfl) (by kernel_rfl) (by kernel_rfl) (fun _ _ _ h => h) (Or.inl ⟨by rfl, ?_⟩) (by assumption) ?_
      rotate_left
      · intro w hSw
        obtain ⟨x4, b0, b1, b2, b3, b4, b5, b6, b7, b8⟩ := hSw
        go_simp
        (try with_reducible rfl)
      (try simp only [Act.put, List.setIfInBounds_toArray, List.set_cons_zero, List.set_cons_succ])
      refine takeD (i := 11) (d := 47) (v := ?_) rfl rfl (by kernel_rfl) (by kernel_rfl) (by kernel_rfl) (fun _ _ _ h => h) (Or.inl ⟨by rfl, ?_⟩) (by assumption) ?_
      rotate_left
      · intro w hSw
        obtain ⟨x4, b0, b1, b2, b3, b4, b5, b6, b7, b8⟩ := hSw
        go_simp
        (try with_reducible rfl)
      (try simp only [Act.put, List.setIfInBounds_toArray, List.set_cons_zero, List.set_cons_succ])
      refine takeD (i := 12) (d := 48) (v := ?_) rfl rfl (by kernel_rfl) (by kernel_rfl) (by kernel_rfl) (fun _ _ _ h => h) (Or.inl ⟨by rfl, ?_⟩) (by assumption) ?_
      rotate_left
      · intro w hSw
        obtain ⟨x4, b0, b1, b2, b3, b4, b5, b6, b7, b8⟩ := hSw
        go_simp
        (try with_reducible rfl)
      (try simp only [Act.put, List.setIfInBounds_toArray, List.set_cons_zero, List.set_cons_succ])
      refine wpAnyH_ready (rs := [13]) (by kernel_rfl) (by simp) ?_
      refine AllReadyH.cons rfl (fun K hK => ?_) AllReadyH.nil
      go_simp
      have HM := MSZ.out
      unfold tyV at HM
      (with_reducible refine HM.mono ?_)
      rintro e w5 ⟨rfl, hb5⟩
      have HB5 := Lib.hid hb5
      have HDD := SE.out
      clear SD SE HM hb5
      have SD : Hid (w5.cell? ⟨X, 4, none⟩ = some (.pointer (some ⟨b, 0, none⟩)) ∧ w5.cell? ⟨b, 0, none⟩ = some (.int .i64 t.kind) ∧ w5.cell? ⟨b, 1, none⟩ = some (.int .i64 t.size) ∧ w5.cell? ⟨b, 2, none⟩ = some (.bool t.sg) ∧ w5.cell? ⟨b, 3, none⟩ = some (.bool t.sc) ∧ w5.cell? ⟨b, 4, none⟩ = some (.pointer e2) ∧ w5.cell? ⟨b, 5, none⟩ = some (.int .i64 t.len) ∧ w5.cell? ⟨b, 6, none⟩ = some (.int .i64 t.num) ∧ w5.cell? ⟨b, 7, none⟩ = some (.slice none 0 0) ∧ w5.cell? ⟨b, 8, none⟩ = some (.pointer none)) := Lib.hid (by
        obtain ⟨x4, b0, b1, b2, b3, b4, b5, b6, b7, b8⟩ := HDD
        exact ⟨by rw [HB5.out.cell (by exact lt_of_cellC x4)]; exact x4, by rw [HB5.out.cell (by exact lt_of_cellC b0)]; exact b0, by rw [HB5.out.cell (by exact lt_of_cellC b0)]; exact b1, by rw [HB5.out.cell (by exact lt_of_cellC b0)]; exact b2, by rw [HB5.out.cell (by exact lt_of_cellC b0)]; exact b3, by rw [HB5.out.cell (by exact lt_of_cellC b0)]; exact b4, by rw [HB5.out.cell (by exact lt_of_cellC b0)]; exact b5, by rw [HB5.out.cell (by exact lt_of_cellC b0)]; exact b6, by rw [HB5.out.cell (by exact lt_of_cellC b0)]; exact b7, by rw [HB5.out.cell (by exact lt_of_cellC b0)]; exact b8⟩)
      clear HDD
      have SE : Hid (w5.drew.cell? ⟨X, 4, none⟩ = some (.pointer (some ⟨b, 0, none⟩)) ∧ w5.drew.cell? ⟨b, 0, none⟩ = some (.int .i64 t.kind) ∧ w5.drew.cell? ⟨b, 1, none⟩ = some (.int .i64 t.size) ∧ w5.drew.cell? ⟨b, 2, none⟩ = some (.bool t.sg) ∧ w5.drew.cell? ⟨b, 3, none⟩ = some (.bool t.sc) ∧ w5.drew.cell? ⟨b, 4, none⟩ = some (.pointer e2) ∧ w5.drew.cell? ⟨b, 5, none⟩ = some (.int .i64 t.len) ∧ w5.drew.cell? ⟨b, 6, none⟩ = some (.int .i64 t.num) ∧ w5.drew.cell? ⟨b, 7, none⟩ = some (.slice none 0 0) ∧ w5.drew.cell? ⟨b, 8, none⟩ = some (.pointer none)) := Lib.hid SD.out
      refine hK.out _ _ ?_ (fun hHeld2 => ?_)
      · (first | (with_reducible exact SD.out) | (with_reducible exact SE.out))
      clear hHeld hK K
      have hHeld := hHeld2
      clear hHeld2
      (try simp only [Act.put, List.setIfInBounds_toArray, List.set_cons_zero, List.set_cons_succ])
      refine takeD (i := 14) (d := 50) (v := ?_) rfl rfl (by kernel_rfl) (by kernel_rfl) (by kernel_rfl) (fun _ _ _ h => h) (Or.inl ⟨by rfl, ?_⟩) (by assumption) ?_
      rotate_left
      · intro w hSw
        obtain ⟨x4, b0, b1, b2, b3, b4, b5, b6, b7, b8⟩ := hSw
        go_simp
        (try with_reducible rfl)
      (try simp only [Act.put, List.setIfInBounds_toArray, List.set_cons_zero, List.set_cons_succ])
      refine takeD (i := 15) (d := 51) (v := ?_) rfl rfl (by kernel_rfl) (by kernel_rfl) (by kernel_rfl) (fun _ _ _ h => h) (Or.inl ⟨by rfl, ?_⟩) (by assumption) ?_
      rotate_left
      · intro w hSw
        obtain ⟨x4, b0, b1, b2, b3, b4, b5, b6, b7, b8⟩ := hSw
        go_simp
        (try with_reducible rfl)
      (try simp only [Act.put, List.setIfInBounds_toArray, List.set_cons_zero, List.set_cons_succ])
      refine wpAnyH_ready (rs := [16]) (by kernel_rfl) (by simp) ?_
      refine AllReadyH.cons rfl (fun K hK => ?_) AllReadyH.nil
      go_simp
      (try simp only [Int.mul_zero, Int.add_zero])
      (try rw [show IntKind.i64.wrap 0 = 0 from by rfl])
      (try simp only [Int.add_zero])
      have hws : IntKind.i64.wrap (at_ : Int) = (at_ : Int) := by rw [IntKind.wrap_i64]; omega
      (try rw [hws])
      clear hws
      have HM := MP.out w5 HB5.out
      unfold tyV at HM
      (with_reducible refine HM.mono ?_)
      rintro e w7 ⟨rfl, hb7⟩
      have HB7 := Lib.hid hb7
      have HDD := SE.out
      clear SD SE HM hb7
      have SD : Hid (w7.cell? ⟨X, 4, none⟩ = some (.pointer (some ⟨b, 0, none⟩)) ∧ w7.cell? ⟨b, 0, none⟩ = some (.int .i64 t.kind) ∧ w7.cell? ⟨b, 1, none⟩ = some (.int .i64 t.size) ∧ w7.cell? ⟨b, 2, none⟩ = some (.bool t.sg) ∧ w7.cell? ⟨b, 3, none⟩ = some (.bool t.sc) ∧ w7.cell? ⟨b, 4, none⟩ = some (.pointer e2) ∧ w7.cell? ⟨b, 5, none⟩ = some (.int .i64 t.len) ∧ w7.cell? ⟨b, 6, none⟩ = some (.int .i64 t.num) ∧ w7.cell? ⟨b, 7, none⟩ = some (.slice none 0 0) ∧ w7.cell? ⟨b, 8, none⟩ = some (.pointer none)) := Lib.hid (by
        obtain ⟨x4, b0, b1, b2, b3, b4, b5, b6, b7, b8⟩ := HDD
        exact ⟨by rw [HB7.out.cell (by exact lt_of_cellC x4)]; exact x4, by rw [HB7.out.cell (by exact lt_of_cellC b0)]; exact b0, by rw [HB7.out.cell (by exact lt_of_cellC b0)]; exact b1, by rw [HB7.out.cell (by exact lt_of_cellC b0)]; exact b2, by rw [HB7.out.cell (by exact lt_of_cellC b0)]; exact b3, by rw [HB7.out.cell (by exact lt_of_cellC b0)]; exact b4, by rw [HB7.out.cell (by exact lt_of_cellC b0)]; exact b5, by rw [HB7.out.cell (by exact lt_of_cellC b0)]; exact b6, by rw [HB7.out.cell (by exact lt_of_cellC b0)]; exact b7, by rw [HB7.out.cell (by exact lt_of_cellC b0)]; exact b8⟩)
      clear HDD
      have SE : Hid (w7.drew.cell? ⟨X, 4, none⟩ = some (.pointer (some ⟨b, 0, none⟩)) ∧ w7.drew.cell? ⟨b, 0, none⟩ = some (.int .i64 t.kind) ∧ w7.drew.cell? ⟨b, 1, none⟩ = some (.int .i64 t.size) ∧ w7.drew.cell? ⟨b, 2, none⟩ = some (.bool t.sg) ∧ w7.drew.cell? ⟨b, 3, none⟩ = some (.bool t.sc) ∧ w7.drew.cell? ⟨b, 4, none⟩ = some (.pointer e2) ∧ w7.drew.cell? ⟨b, 5, none⟩ = some (.int .i64 t.len) ∧ w7.drew.cell? ⟨b, 6, none⟩ = some (.int .i64 t.num) ∧ w7.drew.cell? ⟨b, 7, none⟩ = some (.slice none 0 0) ∧ w7.drew.cell? ⟨b, 8, none⟩ = some (.pointer none)) := Lib.hid SD.out
      refine hK.out _ _ ?_ (fun hHeld2 => ?_)
      · (first | (with_reducible exact SD.out) | (with_reducible exact SE.out))
      clear hHeld hK K
      have hHeld := hHeld2
      clear hHeld2
      (try simp only [Act.put, List.setIfInBounds_toArray, List.set_cons_zero, List.set_cons_succ])
      refine wpAnyH_done (by kernel_rfl) ?_ _
      clear hHeld
      clear SD SE
      go_wp2_with fail
      go_roundw
      case rel =>
        have hb5 : Below wr.heap.size wr w5 := HBD.out.trans HB5.out
        exact ⟨i + 1, by go_num, by omega, Lib.hid (HT.out.trans ((hb5.trans (HB7.out.mono hb5.size)).mono HT.out.size))⟩
      case measure => simp [intOf]; omega
    · obtain rfl : m = i := by omega
      go_wp2_with fail
      go_end0
      exact ⟨rfl, HB4.out.trans (HT.out.mono HB4.out.size)⟩

set_option maxRecDepth 100000 in
set_option maxHeartbeats 4000000 in
theorem paintz_void (tb : Nat) (la : Option Addr) (len cap : Nat) (at_ : Int) (w : World) :
    Calls Try.prog 19 #[.pointer (some ⟨tb, 0, none⟩), .agg #[.int .i64 0, .int .i64 0, .bool false, .bool false, .pointer none, .int .i64 0, .int .i64 0, .slice none 0 0, .pointer none], .slice la len cap, .int .i64 at_] w fun e w' => e = .returned (.tuple #[]) ∧ Below w.heap.size w w' := by
  go_enter Try.func19, Try.ntmps19
  go_wp2_with fail
  go_end0
  exact ⟨rfl, (Below.refl _ _).alloc (Nat.le_refl _) _⟩

set_option maxRecDepth 100000 in
set_option maxHeartbeats 4000000 in
theorem paintz_st (T : Tb) (hlay : LayT T) (k : Int) (hk : k < 0 ∨ (T.n : Int) ≤ k) (hi : Nat) (la : Option Addr) (len cap : Nat) (at_ : Int) (w : World) (htab : TabK T hi w) :
    Calls Try.prog 19 #[.pointer (some ⟨T.tb, 0, none⟩), .agg #[.int .i64 4, .int .i64 0, .bool false, .bool false, .pointer none, .int .i64 0, .int .i64 k, .slice none 0 0, .pointer none], .slice la len cap, .int .i64 at_] w fun e w' => e = .returned (.tuple #[]) ∧ Below w.heap.size w w' := by
  have HT := Lib.hid htab
  have hn20 := hlay.n20
  clear htab
  go_enter Try.func19, Try.ntmps19
  go_wp2_with fail
  have hb0 : Below w.heap.size w (w.alloc (.cells #[.int .i64 4, .int .i64 0, .bool false, .bool false, .pointer none, .int .i64 0, .int .i64 k, .slice none 0 0, .pointer none] 57)) := (Below.refl _ _).alloc (Nat.le_refl _) _
  have hf := fields_out T.tb T.rb T.n T.rc (by omega) T.a T.SN T.FA T.FN T.FC T.SZ T.AL k hk _ (HT.out.below hb0).t
  (with_reducible refine hf.mono ?_)
  rintro e w1 ⟨rfl, hb1⟩
  have HB1 : Hid (Below w.heap.size w w1) := Lib.hid (hb0.trans (hb1.mono hb0.size))
  clear hb0 hf hb1
  go_wp2_with fail
  refine wp_loop_rounds 1 ?_; rw [rounds_succ]
  go_wp2_with fail
  go_end0
  exact ⟨rfl, HB1.out⟩

theorem paint_zero (T : Tb) (hl : LayT T) : ∀ t, OkT t → sizeM T.n T.SZ t = 0 → PaintZ T t := by
  intro t
  induction t with
  | void =>
    intro _ _ hi la len cap at_ el w hat hk he
    obtain rfl : el = none := he
    exact paintz_void T.tb la len cap at_ w
  | int k b c => intro ok h; exfalso; have : k = 0 := h; have := ok.1; omega
  | ptr t ih => intro _ h; exfalso; have : (8 : Int) = 0 := h; omega
  | arr t m ih =>
    intro ok h hi la len cap at_ el w hat hk he
    obtain ⟨hm0, hm1, okt⟩ := ok
    obtain ⟨b, e2, rfl, hb1, hb9, he2⟩ := he
    obtain ⟨M, hM⟩ : ∃ M : Nat, m = M := ⟨m.toNat, by omega⟩
    have hz : 0 < M → sizeM T.n T.SZ t = 0 := fun hM0 => by
      have h1 := timesM_small (N := 0) (by omega) h (by omega)
      rcases Int.mul_eq_zero.1 h1.symm with h2 | h2
      · omega
      · exact h2
    have := paintz_arr T hl t okt (m0 := M) (fun h0 => ih okt (hz h0)) M rfl (by omega) hz hi la len cap at_ hat b e2 w hk hb1 hb9 he2
    rw [← hM] at this
    exact this
  | st j =>
    intro ok h hi la len cap at_ el w hat hk he
    obtain rfl : el = none := he
    refine paintz_st T hl j ?_ hi la len cap at_ w hk
    by_cases hj : j < 0 ∨ (T.n : Int) ≤ j
    · exact hj
    · exfalso
      obtain ⟨k, hk'⟩ : ∃ k : Nat, j = k := ⟨j.toNat, by omega⟩
      subst hk'
      have hkn : k < T.n := by omega
      have h1 : (if 0 ≤ (k : Int) ∧ (k : Int) < (T.n : Int) then T.SZ (k : Int).toNat else 0) = 0 := h
      rw [if_pos (by omega)] at h1
      simp at h1
      obtain ⟨off, sz, en, hof⟩ := offs_of hl k hkn
      have hc := (hl.c k hkn).1
      have e1 := hof.e (T.CT k - 1) (by omega)
      have p1 := hof.p (T.CT k - 1) (by omega)
      have m1 := hof.m (T.CT k - 1 + 1) (by omega)
      rw [h1] at m1
      simp at m1
      omega
end Go.Proofs.Ytdkhanjfncbfnaa
