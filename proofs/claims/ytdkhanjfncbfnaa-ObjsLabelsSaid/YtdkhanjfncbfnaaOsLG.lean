import Derived.Test.YtdkhanjfncbfnaaOsLF
import Derived.Test.YtdkhanjfncbfnaaOsCA
namespace Go.Proofs.Ytdkhanjfncbfnaa
open Go Go.RowKit
set_option linter.unusedVariables false
set_option linter.unusedSimpArgs false

set_option maxRecDepth 100000 in
set_option maxHeartbeats 8000000 in
theorem paint_arr (T : Tb) (hlay : LayT T) (t : Ty) (ok : OkT t) (LF : Nat → Bool) (hp : PaintOk T t LF) (m N1 N hi g o len cap at_ : Nat) (hm20 : m ≤ 1000000) (hN1 : sizeM T.n T.SZ t = N1) (h10 : 0 < N1) (hNN : N = m * N1) (hN : at_ + N ≤ len) (hlc : len ≤ cap) (hcap : cap ≤ 1000000) (b : Nat) (e2 : Option Addr) (w : World) (hk : TabK T hi w) (hg : hi ≤ g) (hgl : g < w.heap.size)
    (hbl : b < w.heap.size) (hbg : b ≠ g) (hb9 : Cells9 w b 0 t e2) (he2 : ElG w g t e2) (hl : Labs w g (o + at_) N (fun _ => false)) (hz : ∀ j, w.frozen? ⟨g, j, none⟩ = false) :
    Calls Try.prog 19 #[.pointer (some ⟨T.tb, 0, none⟩), .agg #[.int .i64 3, .int .i64 0, .bool false, .bool false, .pointer (some ⟨b, 0, none⟩), .int .i64 (m : Int), .int .i64 0, .slice none 0 0, .pointer none], .slice (some ⟨g, o, none⟩) len cap, .int .i64 (at_ : Int)] w (Paints g (o + at_) N (fun i => LF (i % N1)) w) := by
  have HL := Lib.hid hl
  have HZ := Lib.hid hz
  have HK := Lib.hid hk
  have HB9 := Lib.hid hb9
  have HE2 := Lib.hid he2
  have HPA := Lib.hid hp
  have HN1 := Lib.hid hN1
  have HNN := Lib.hid hNN
  clear hl hz hk hb9 he2 hp hN1 hNN
  go_enter Try.func19, Try.ntmps19
  go_wp2_with fail
  generalize hW4 : w.alloc (.cells #[.int .i64 3, .int .i64 0, .bool false, .bool false, .pointer (some ⟨b, 0, none⟩), .int .i64 (m : Int), .int .i64 0, .slice none 0 0, .pointer none] 57) = W4
  obtain ⟨X, hX⟩ : ∃ X, X = w.heap.size := ⟨_, rfl⟩
  rw [← hX]
  have hb4 : Below w.heap.size w W4 := by rw [← hW4]; exact (Below.refl _ _).alloc (Nat.le_refl _) _
  have hs4 : W4.heap.size = w.heap.size + 1 := by rw [← hW4]; simp
  have HX4 : Hid (W4.cell? ⟨X, 4, none⟩ = some (.pointer (some ⟨b, 0, none⟩))) := Lib.hid (by rw [← hW4, hX]; exact cell_new _ _ _ _ _ rfl)
  have HB4 := Lib.hid hb4
  have HXL := Lib.hid (show X < W4.heap.size ∧ X ≠ g ∧ b ≠ g from by omega)
  have HBL := Lib.hid hbl
  clear hW4 hX hb4 hs4
  go_loopw [33] (fun s33 wr => ∃ i : Nat, s33 = .int .i64 i ∧ i ≤ m ∧ Hid (Turn g W4 wr) ∧ Hid (Labs wr g (o + at_) N (fun j => decide (j < i * N1) && LF (j % N1))) ∧ Hid (∀ j, j < o + at_ ∨ o + at_ + N ≤ j → wr.cell? ⟨g, j, none⟩ = w.cell? ⟨g, j, none⟩)) (fun s33 _ => m - (intOf s33).toNat)
  case atStart => exact ⟨0, rfl, by omega, Lib.hid (Turn.refl _ _), Lib.hid (fun j hj => by have := (HL.out.below HB4.out hgl) j hj; simpa using this), Lib.hid (fun j _ => HB4.out.cell (by exact hgl))⟩
  case round =>
    obtain ⟨i, rfl, hi2, HT, HLB, HO⟩ := hrel
    by_cases hlt : i < m
    · have hil : (i : Int) < m := by omega
      obtain ⟨q, hq⟩ : ∃ q : Nat, q = i * N1 := ⟨_, rfl⟩
      have hqi : (i : Int) * (N1 : Int) = (q : Int) := by rw [hq]; exact (Int.natCast_mul _ _).symm
      have hqN : q + N1 ≤ N := by
        rw [HNN.out, hq]
        have := Nat.mul_le_mul_right N1 (show i + 1 ≤ m from hlt)
        rw [Nat.succ_mul] at this
        exact this
      have hqb : (q : Int) + N1 ≤ 1000000 := by omega
      have hq0 : (at_ : Int) + q ≤ 1000000 := by omega
      have HQ := Lib.hid hq
      have hgr : g < wr.heap.size := Nat.lt_of_lt_of_le (Nat.lt_of_lt_of_le hgl HB4.out.size) HT.out.size
      have HBD : Hid (Below wr.heap.size wr wr.drew) := Lib.hid (Below.refl _ _).drew
      have HKR := Lib.hid ((HK.out.below HB4.out).turn HT.out hg)
      have HER := Lib.hid ((HE2.out.below HB4.out).turn HT.out)
      have SD : Hid (wr.cell? ⟨X, 4, none⟩ = some (.pointer (some ⟨b, 0, none⟩)) ∧ wr.cell? ⟨b, 0, none⟩ = some (.int .i64 t.kind) ∧ wr.cell? ⟨b, 1, none⟩ = some (.int .i64 t.size) ∧ wr.cell? ⟨b, 2, none⟩ = some (.bool t.sg) ∧ wr.cell? ⟨b, 3, none⟩ = some (.bool t.sc) ∧ wr.cell? ⟨b, 4, none⟩ = some (.pointer e2) ∧ wr.cell? ⟨b, 5, none⟩ = some (.int .i64 t.len) ∧ wr.cell? ⟨b, 6, none⟩ = some (.int .i64 t.num) ∧ wr.cell? ⟨b, 7, none⟩ = some (.slice none 0 0) ∧ wr.cell? ⟨b, 8, none⟩ = some (.pointer none)) := Lib.hid (by
        have hbW : b < W4.heap.size := Nat.lt_of_lt_of_le HBL.out HB4.out.size
        obtain ⟨b0, b1, b2, b3, b4, b5, b6, b7, b8⟩ := (HB9.out.below HB4.out HBL.out).same (w' := wr) (fun o' => HT.out.cell (a := ⟨b, o', none⟩) (by exact hbW) (by exact HXL.out.2.2))
        simp only [Nat.zero_add] at b1 b2 b3 b4 b5 b6 b7 b8
        exact ⟨by rw [HT.out.cell (by exact HXL.out.1) (by exact HXL.out.2.1)]; exact HX4.out, b0, b1, b2, b3, b4, b5, b6, b7, b8⟩)
      have SE : Hid (wr.drew.cell? ⟨X, 4, none⟩ = some (.pointer (some ⟨b, 0, none⟩)) ∧ wr.drew.cell? ⟨b, 0, none⟩ = some (.int .i64 t.kind) ∧ wr.drew.cell? ⟨b, 1, none⟩ = some (.int .i64 t.size) ∧ wr.drew.cell? ⟨b, 2, none⟩ = some (.bool t.sg) ∧ wr.drew.cell? ⟨b, 3, none⟩ = some (.bool t.sc) ∧ wr.drew.cell? ⟨b, 4, none⟩ = some (.pointer e2) ∧ wr.drew.cell? ⟨b, 5, none⟩ = some (.int .i64 t.len) ∧ wr.drew.cell? ⟨b, 6, none⟩ = some (.int .i64 t.num) ∧ wr.drew.cell? ⟨b, 7, none⟩ = some (.slice none 0 0) ∧ wr.drew.cell? ⟨b, 8, none⟩ = some (.pointer none)) := Lib.hid SD.out
      have MSZ := Lib.hid (size_k hlay t ok e2 wr.drew (HKR.out.below HBD.out) g (HER.out.below HBD.out))
      rw [HN1.out] at MSZ
      have MP : Hid (∀ w6, Below wr.drew.heap.size wr.drew w6 → Calls Try.prog 19 #[.pointer (some ⟨T.tb, 0, none⟩), tyV t e2, .slice (some ⟨g, o, none⟩) len cap, .int .i64 ((at_ : Int) + (q : Int))] w6 (Paints g (o + (at_ + q)) N1 LF w6)) := Lib.hid (fun w6 h6 => by
        have hb6 : Below wr.heap.size wr w6 := HBD.out.trans h6
        have := HPA.out N1 hi g o len cap (at_ + q) e2 w6 HN1.out (by omega) hlc hcap (HKR.out.below hb6) hg (Nat.lt_of_lt_of_le hgr hb6.size) (HER.out.below hb6) (fun j hj => by
          have h1 := (HLB.out.below hb6 hgr) (q + j) (by omega)
          rw [show o + at_ + (q + j) = o + (at_ + q) + j from by omega] at h1
          rw [h1]
          have : ¬ q + j < i * N1 := by rw [← HQ.out]; omega
          simp [this]) (fun j => by rw [hb6.frozen (by exact hgr)]; exact HT.out.fz j (by rw [HB4.out.frozen (by exact hgl)]; exact HZ.out j))
        rw [Int.natCast_add] at this
        exact this)
      clear hq
      go_upto_region 12 with fail
      refine wp_region_held_drew (S := (fun w' => w'.cell? ⟨X, 4, none⟩ = some (.pointer (some ⟨b, 0, none⟩)) ∧ w'.cell? ⟨b, 0, none⟩ = some (.int .i64 t.kind) ∧ w'.cell? ⟨b, 1, none⟩ = some (.int .i64 t.size) ∧ w'.cell? ⟨b, 2, none⟩ = some (.bool t.sg) ∧ w'.cell? ⟨b, 3, none⟩ = some (.bool t.sc) ∧ w'.cell? ⟨b, 4, none⟩ = some (.pointer e2) ∧ w'.cell? ⟨b, 5, none⟩ = some (.int .i64 t.len) ∧ w'.cell? ⟨b, 6, none⟩ = some (.int .i64 t.num) ∧ w'.cell? ⟨b, 7, none⟩ = some (.slice none 0 0) ∧ w'.cell? ⟨b, 8, none⟩ = some (.pointer none))) (by kernel_rfl) (by (first | (with_reducible exact SD.out) | (with_reducible exact SE.out))) (fun hHeld => ?_)
      refine takeD (i := 0) (d := 36) (v := ?_) rfl rfl (by kernel_rfl) (by kernel_rfl) (by kernel_rfl) (fun _ _ _ h => h) (Or.inl ⟨by rfl, ?_⟩) (by assumption) ?_
      rotate_left
      · intro w hSw
        obtain ⟨x4, b0, b1, b2, b3, b4, b5, b6, b7, b8⟩ := hSw
        go_simp
        (try with_reducible rfl)
      (try simp only [Act.put, List.setIfInBounds_toArray, List.set_cons_zero, List.set_cons_succ])
      refine takeD (i := 1) (d := 37) (v := ?_) rfl rfl (by kernel_rfl) (by kernel_rfl) (by kernel_rfl) (fun _ _ _ h => h) (Or.inl ⟨by rfl, ?_⟩) (by assumption) ?_
      rotate_left
      · intro w hSw
        obtain ⟨x4, b0, b1, b2, b3, b4, b5, b6, b7, b8⟩ := hSw
        go_simp
        (try with_reducible rfl)
      (try simp only [Act.put, List.setIfInBounds_toArray, List.set_cons_zero, List.set_cons_succ])
      refine takeD (i := 2) (d := 38) (v := ?_) rfl rfl (by kernel_rfl) (by kernel_rfl) (by kernel_rfl) (fun _ _ _ h => h) (Or.inl ⟨by rfl, ?_⟩) (by assumption) ?_
      rotate_left
      · intro w hSw
        obtain ⟨x4, b0, b1, b2, b3, b4, b5, b6, b7, b8⟩ := hSw
        go_simp
        (try with_reducible rfl)
      (try simp only [Act.put, List.setIfInBounds_toArray, List.set_cons_zero, List.set_cons_succ])
      refine takeD (i := 3) (d := 39) (v := ?_) rfl rfl (by kernel_rfl) (by kernel_rfl) (by kernel_rfl) (fun _ _ _ h => h) (Or.inl ⟨by rfl, ?_⟩) (by assumption) ?_
      rotate_left
      · intro w hSw
        obtain ⟨x4, b0, b1, b2, b3, b4, b5, b6, b7, b8⟩ := hSw
        go_simp
        (try with_reducible rfl)
      (try simp only [Act.put, List.setIfInBounds_toArray, List.set_cons_zero, List.set_cons_succ])
      refine takeD (i := 4) (d := 40) (v := ?_) rfl rfl (by kernel_rfl) (by kernel_rfl) (by kernel_rfl) (fun _ _ _ h => h) (Or.inl ⟨by rfl, ?_⟩) (by assumption) ?_
      rotate_left
      · intro w hSw
        obtain ⟨x4, b0, b1, b2, b3, b4, b5, b6, b7, b8⟩ := hSw
        go_simp
        (try with_reducible rfl)
      (try simp only [Act.put, List.setIfInBounds_toArray, List.set_cons_zero, List.set_cons_succ])
      refine takeD (i := 5) (d := 41) (v := ?_) rfl rfl (by kernel_rfl) (by kernel_rfl) (by kernel_rfl) (fun _ _ _ h => h) (Or.inl ⟨by rfl, ?_⟩) (by assumption) ?_
      rotate_left
      · intro w hSw
        obtain ⟨x4, b0, b1, b2, b3, b4, b5, b6, b7, b8⟩ := hSw
        go_simp
        (try with_reducible rfl)
      (try simp only [Act.put, List.setIfInBounds_toArray, List.set_cons_zero, List.set_cons_succ])
      refine takeD (i := 6) (d := 42) (v := ?_) rfl rfl (by kernel_rfl) (by kernel_rfl) (by kernel_rfl) (fun _ _ _ h => h) (Or.inl ⟨by rfl, ?_⟩) (by assumption) ?_
      rotate_left
      · intro w hSw
        obtain ⟨x4, b0, b1, b2, b3, b4, b5, b6, b7, b8⟩ := hSw
        go_simp
        (try with_reducible rfl)
      (try simp only [Act.put, List.setIfInBounds_toArray, List.set_cons_zero, List.set_cons_succ])
      refine takeD (i := 7) (d := 43) (v := ?_) rfl rfl (by kernel_rfl) (by kernel_rfl) (by kernel_rfl) (fun _ _ _ h => h) (Or.inl ⟨by rfl, ?_⟩) (by assumption) ?_
      rotate_left
      · intro w hSw
        obtain ⟨x4, b0, b1, b2, b3, b4, b5, b6, b7, b8⟩ := hSw
        go_simp
        (try with_reducible rfl)
      (try simp only [Act.put, List.setIfInBounds_toArray, List.set_cons_zero, List.set_cons_succ])
      refine takeD (i := 8) (d := 44) (v := ?_) rfl rfl (by kernel_rfl) (by kernel_rfl) (by kernel_rfl) (fun _ _ _ h => h) (Or.inl ⟨by rfl, ?_⟩) (by assumption) ?_
      rotate_left
      · intro w hSw
        obtain ⟨x4, b0, b1, b2, b3, b4, b5, b6, b7, b8⟩ := hSw
        go_simp
        (try with_reducible rfl)
      (try simp only [Act.put, List.setIfInBounds_toArray, List.set_cons_zero, List.set_cons_succ])
      refine takeD (i := 9) (d := 45) (v := ?_) rfl rfl (by kernel_rfl) (by kernel_rfl) (by kernel_rfl) (fun _ _ _ h => h) (Or.inl ⟨by rfl, ?_⟩) (by assumption) ?_
      rotate_left
      · intro w hSw
        obtain ⟨x4, b0, b1, b2, b3, b4, b5, b6, b7, b8⟩ := hSw
        go_simp
        (try with_reducible rfl)
      (try simp only [Act.put, List.setIfInBounds_toArray, List.set_cons_zero, List.set_cons_succ])
      refine takeD (i := 10) (d := 46) (v := ?_) rfl rfl (by kernel_rfl) (by kernel_rfl) (by kernel_rfl) (fun _ _ _ h => h) (Or.inl ⟨by rfl, ?_⟩) (by assumption) ?_
      rotate_left
      · intro w hSw
        obtain ⟨x4, b0, b1, b2, b3, b4, b5, b6, b7, b8⟩ := hSw
        go_simp
        (try with_reducible rfl)
      (try simp only [Act.put, List.setIfInBounds_toArray, List.set_cons_zero, List.set_cons_succ])
      refine takeD (i := 11) (d := 47) (v := ?_) rfl rfl (by kernel_rfl) (by kernel_rfl) (by kernel_rfl) (fun _ _ _ h => h) (Or.inl ⟨by rfl, ?_⟩) (by assumption) ?_
      rotate_left
      · intro w hSw
        obtain ⟨x4, b0, b1, b2, b3, b4, b5, b6, b7, b8⟩ := hSw
        go_simp
        (try with_reducible rfl)
      (try simp only [Act.put, List.setIfInBounds_toArray, List.set_cons_zero, List.set_cons_succ])
      refine takeD (i := 12) (d := 48) (v := ?_) rfl rfl (by kernel_rfl) (by kernel_rfl) (by kernel_rfl) (fun _ _ _ h => h) (Or.inl ⟨by rfl, ?_⟩) (by assumption) ?_
      rotate_left
      · intro w hSw
        obtain ⟨x4, b0, b1, b2, b3, b4, b5, b6, b7, b8⟩ := hSw
        go_simp
        (try with_reducible rfl)
      (try simp only [Act.put, List.setIfInBounds_toArray, List.set_cons_zero, List.set_cons_succ])
      refine wpAnyH_ready (rs := [13]) (by kernel_rfl) (by simp) ?_
      refine AllReadyH.cons rfl (fun K hK => ?_) AllReadyH.nil
      go_simp
      have HM := MSZ.out
      unfold tyV at HM
      (with_reducible refine HM.mono ?_)
      rintro e w5 ⟨rfl, hb5⟩
      have HB5 := Lib.hid hb5
      have HDD := SE.out
      clear SD SE HM hb5
      have SD : Hid (w5.cell? ⟨X, 4, none⟩ = some (.pointer (some ⟨b, 0, none⟩)) ∧ w5.cell? ⟨b, 0, none⟩ = some (.int .i64 t.kind) ∧ w5.cell? ⟨b, 1, none⟩ = some (.int .i64 t.size) ∧ w5.cell? ⟨b, 2, none⟩ = some (.bool t.sg) ∧ w5.cell? ⟨b, 3, none⟩ = some (.bool t.sc) ∧ w5.cell? ⟨b, 4, none⟩ = some (.pointer e2) ∧ w5.cell? ⟨b, 5, none⟩ = some (.int .i64 t.len) ∧ w5.cell? ⟨b, 6, none⟩ = some (.int .i64 t.num) ∧ w5.cell? ⟨b, 7, none⟩ = some (.slice none 0 0) ∧ w5.cell? ⟨b, 8, none⟩ = some (.pointer none)) := Lib.hid (by
        obtain ⟨x4, b0, b1, b2, b3, b4, b5, b6, b7, b8⟩ := HDD
        exact ⟨by rw [HB5.out.cell (by exact lt_of_cellC x4)]; exact x4, by rw [HB5.out.cell (by exact lt_of_cellC b0)]; exact b0, by rw [HB5.out.cell (by exact lt_of_cellC b0)]; exact b1, by rw [HB5.out.cell (by exact lt_of_cellC b0)]; exact b2, by rw [HB5.out.cell (by exact lt_of_cellC b0)]; exact b3, by rw [HB5.out.cell (by exact lt_of_cellC b0)]; exact b4, by rw [HB5.out.cell (by exact lt_of_cellC b0)]; exact b5, by rw [HB5.out.cell (by exact lt_of_cellC b0)]; exact b6, by rw [HB5.out.cell (by exact lt_of_cellC b0)]; exact b7, by rw [HB5.out.cell (by exact lt_of_cellC b0)]; exact b8⟩)
      clear HDD
      have SE : Hid (w5.drew.cell? ⟨X, 4, none⟩ = some (.pointer (some ⟨b, 0, none⟩)) ∧ w5.drew.cell? ⟨b, 0, none⟩ = some (.int .i64 t.kind) ∧ w5.drew.cell? ⟨b, 1, none⟩ = some (.int .i64 t.size) ∧ w5.drew.cell? ⟨b, 2, none⟩ = some (.bool t.sg) ∧ w5.drew.cell? ⟨b, 3, none⟩ = some (.bool t.sc) ∧ w5.drew.cell? ⟨b, 4, none⟩ = some (.pointer e2) ∧ w5.drew.cell? ⟨b, 5, none⟩ = some (.int .i64 t.len) ∧ w5.drew.cell? ⟨b, 6, none⟩ = some (.int .i64 t.num) ∧ w5.drew.cell? ⟨b, 7, none⟩ = some (.slice none 0 0) ∧ w5.drew.cell? ⟨b, 8, none⟩ = some (.pointer none)) := Lib.hid SD.out
      refine hK.out _ _ ?_ (fun hHeld2 => ?_)
      · (first | (with_reducible exact SD.out) | (with_reducible exact SE.out))
      clear hHeld hK K
      have hHeld := hHeld2
      clear hHeld2
      (try simp only [Act.put, List.setIfInBounds_toArray, List.set_cons_zero, List.set_cons_succ])
      refine takeD (i := 14) (d := 50) (v := ?_) rfl rfl (by kernel_rfl) (by kernel_rfl) (by kernel_rfl) (fun _ _ _ h => h) (Or.inl ⟨by rfl, ?_⟩) (by assumption) ?_
      rotate_left
      · intro w hSw
        obtain ⟨x4, b0, b1, b2, b3, b4, b5, b6, b7, b8⟩ := hSw
        go_simp
        (try with_reducible rfl)
      (try simp only [Act.put, List.setIfInBounds_toArray, List.set_cons_zero, List.set_cons_succ])
      refine takeD (i := 15) (d := 51) (v := ?_) rfl rfl (by kernel_rfl) (by kernel_rfl) (by kernel_rfl) (fun _ _ _ h => h) (Or.inl ⟨by rfl, ?_⟩) (by assumption) ?_
      rotate_left
      · intro w hSw
        obtain ⟨x4, b0, b1, b2, b3, b4, b5, b6, b7, b8⟩ := hSw
        go_simp
        (try with_reducible rfl)
      (try simp only [Act.put, List.setIfInBounds_toArray, List.set_cons_zero, List.set_cons_succ])
      refine wpAnyH_ready (rs := [16]) (by kernel_rfl) (by simp) ?_
      refine AllReadyH.cons rfl (fun K hK => ?_) AllReadyH.nil
      go_simp
      have hwq : IntKind.i64.wrap (q : Int) = q := by rw [IntKind.wrap_i64]; omega
      rw [hwq]
      clear hwq
      have hws : IntKind.i64.wrap ((at_ : Int) + q) = (at_ : Int) + q := by rw [IntKind.wrap_i64]; omega
      rw [hws]
      clear hws
      have HM := MP.out w5 HB5.out
      unfold tyV at HM
      (with_reducible refine HM.mono ?_)
      rintro e w7 ⟨rfl, ht7, hl7, ho7⟩
      have HT7 := Lib.hid ht7
      have HL7 := Lib.hid hl7
      have HO7 := Lib.hid ho7
      have HDD := SE.out
      clear SD SE HM ht7 hl7 ho7
      have SD : Hid (w7.cell? ⟨X, 4, none⟩ = some (.pointer (some ⟨b, 0, none⟩)) ∧ w7.cell? ⟨b, 0, none⟩ = some (.int .i64 t.kind) ∧ w7.cell? ⟨b, 1, none⟩ = some (.int .i64 t.size) ∧ w7.cell? ⟨b, 2, none⟩ = some (.bool t.sg) ∧ w7.cell? ⟨b, 3, none⟩ = some (.bool t.sc) ∧ w7.cell? ⟨b, 4, none⟩ = some (.pointer e2) ∧ w7.cell? ⟨b, 5, none⟩ = some (.int .i64 t.len) ∧ w7.cell? ⟨b, 6, none⟩ = some (.int .i64 t.num) ∧ w7.cell? ⟨b, 7, none⟩ = some (.slice none 0 0) ∧ w7.cell? ⟨b, 8, none⟩ = some (.pointer none)) := Lib.hid (by
        obtain ⟨x4, b0, b1, b2, b3, b4, b5, b6, b7, b8⟩ := HDD
        exact ⟨by rw [HT7.out.cell (by exact lt_of_cellC x4) (by exact HXL.out.2.1)]; exact x4, by rw [HT7.out.cell (by exact lt_of_cellC b0) (by exact HXL.out.2.2)]; exact b0, by rw [HT7.out.cell (by exact lt_of_cellC b0) (by exact HXL.out.2.2)]; exact b1, by rw [HT7.out.cell (by exact lt_of_cellC b0) (by exact HXL.out.2.2)]; exact b2, by rw [HT7.out.cell (by exact lt_of_cellC b0) (by exact HXL.out.2.2)]; exact b3, by rw [HT7.out.cell (by exact lt_of_cellC b0) (by exact HXL.out.2.2)]; exact b4, by rw [HT7.out.cell (by exact lt_of_cellC b0) (by exact HXL.out.2.2)]; exact b5, by rw [HT7.out.cell (by exact lt_of_cellC b0) (by exact HXL.out.2.2)]; exact b6, by rw [HT7.out.cell (by exact lt_of_cellC b0) (by exact HXL.out.2.2)]; exact b7, by rw [HT7.out.cell (by exact lt_of_cellC b0) (by exact HXL.out.2.2)]; exact b8⟩)
      clear HDD
      have SE : Hid (w7.drew.cell? ⟨X, 4, none⟩ = some (.pointer (some ⟨b, 0, none⟩)) ∧ w7.drew.cell? ⟨b, 0, none⟩ = some (.int .i64 t.kind) ∧ w7.drew.cell? ⟨b, 1, none⟩ = some (.int .i64 t.size) ∧ w7.drew.cell? ⟨b, 2, none⟩ = some (.bool t.sg) ∧ w7.drew.cell? ⟨b, 3, none⟩ = some (.bool t.sc) ∧ w7.drew.cell? ⟨b, 4, none⟩ = some (.pointer e2) ∧ w7.drew.cell? ⟨b, 5, none⟩ = some (.int .i64 t.len) ∧ w7.drew.cell? ⟨b, 6, none⟩ = some (.int .i64 t.num) ∧ w7.drew.cell? ⟨b, 7, none⟩ = some (.slice none 0 0) ∧ w7.drew.cell? ⟨b, 8, none⟩ = some (.pointer none)) := Lib.hid SD.out
      refine hK.out _ _ ?_ (fun hHeld2 => ?_)
      · (first | (with_reducible exact SD.out) | (with_reducible exact SE.out))
      clear hHeld hK K
      have hHeld := hHeld2
      clear hHeld2
      (try simp only [Act.put, List.setIfInBounds_toArray, List.set_cons_zero, List.set_cons_succ])
      refine wpAnyH_done (by kernel_rfl) ?_ _
      clear hHeld
      clear SD SE
      go_wp2_with fail
      go_roundw
      case rel =>
        have hq := HQ.out
        have hb5 : Below wr.heap.size wr w5 := HBD.out.trans HB5.out
        have hsucc : (i + 1) * N1 = q + N1 := by rw [Nat.succ_mul, hq]
        refine ⟨i + 1, by go_num, by omega, Lib.hid ((HT.out.trans (Turn.of hb5 hgr)).trans HT7.out), Lib.hid (fun j hj => ?_), Lib.hid (fun j hj => ?_)⟩
        · show _ = some (Value.bool (decide (j < (i + 1) * N1) && LF (j % N1)))
          rw [hsucc]
          by_cases hx : q ≤ j ∧ j < q + N1
          · have := HL7.out (j - q) (by omega)
            rw [show o + (at_ + q) + (j - q) = o + at_ + j from by omega] at this
            rw [this]
            have hmod : j % N1 = j - q := by
              rw [show j = (j - q) + N1 * i from by rw [Nat.mul_comm N1 i, ← hq]; omega, Nat.add_mul_mod_self_left, Nat.mod_eq_of_lt (by omega), Nat.mul_comm N1 i, ← hq]
              omega
            rw [hmod]
            have : decide (j < q + N1) = true := by simp; omega
            rw [this]; simp
          · rw [HO7.out _ (by omega), hb5.cell (by exact hgr), HLB.out j hj]
            show some (Value.bool (decide (j < i * N1) && LF (j % N1))) = _
            rw [← hq]
            have : decide (j < q) = decide (j < q + N1) := by simp; omega
            rw [this]
        · rw [HO7.out j (by omega), hb5.cell (by exact hgr)]
          exact HO.out j hj
      case measure => simp [intOf]; omega
    · obtain rfl : m = i := by omega
      go_wp2_with fail
      go_end0
      exact ⟨rfl, (Turn.of HB4.out hgl).trans HT.out, fun j hj => by
        have := HLB.out j hj
        rw [this]
        have hd : decide (j < m * N1) = true := by rw [← HNN.out]; simp; omega
        show some (Value.bool (decide (j < m * N1) && LF (j % N1))) = some (Value.bool (LF (j % N1)))
        rw [hd]; simp, HO.out⟩
end Go.Proofs.Ytdkhanjfncbfnaa
