import Derived.Test.YtlfpeoeopkkpgaaDoorLexW
namespace Go.Proofs.YtlfpeoeopkkpgaaDoor
open Go Go.RowKit

theorem lim2_name : scanM (List.replicate 39 120) = .ok [{ kind := 1, text := List.replicate 39 120, at_ := 0, value := 0, uns := false, long := false }, { kind := 0, text := [], at_ := 39, value := 0, uns := false, long := false }] := by kernel_rfl
theorem lim2_digits : scanM [49, 56, 52, 52, 54, 55, 52, 52, 48, 55, 51, 55, 48, 57, 53, 53, 49, 54, 49, 53] = .ok [{ kind := 3, text := [49, 56, 52, 52, 54, 55, 52, 52, 48, 55, 51, 55, 48, 57, 53, 53, 49, 54, 49, 53], at_ := 0, value := 18446744073709551615, uns := false, long := false }, { kind := 0, text := [], at_ := 20, value := 0, uns := false, long := false }] := by kernel_rfl

set_option maxRecDepth 100000 in
set_option maxHeartbeats 4000000 in
theorem lim2 (n : Int) (hr : (wrap64 (n.tmod 6 + 6)).tmod 6 = 2) (w : World) (hg : G w) :
    Calls Tryd.prog 5 #[.int .i64 n] w fun e w' => e = .returned (.bool true) ∧ Below w.heap.size w w' := by
  have C1 := Lib.hid (fit_any w hg)
  obtain ⟨i0, hi, hz0, hz1, hz2⟩ := info_parts infoU8
  obtain ⟨m, hm⟩ : ∃ m : Nat, m = 16383 := ⟨_, rfl⟩
  obtain ⟨k, hk⟩ : ∃ k : Nat, k = 39 := ⟨_, rfl⟩
  have HM := Lib.hid hm
  have HKK := Lib.hid hk
  have hm1 : m ≤ 20000 := by omega
  have hk1 : k ≤ 100 := by omega
  clear hm hk
  go_enter Tryd.func5, Tryd.ntmps5
  go_wp2_with fail
  refine C1.out.mono ?_
  rintro e w1 ⟨rfl, hb⟩
  have hg1 : G w1 := hg.below hb
  clear hg
  go_wp2_with (at_make; go_must (refine wpList_make_full _ rfl _ _ 37 rfl w1.heap.size 5 i0 (.int .u8 0) 1 Tryd.underlying37 hi hz0 hz1 .i64 .i64 16383 16383 m rfl rfl ?c1 ?c2 ?c3 ?c4 ?c5 ?c6))
  case c1 => rw [HM.out]; rfl
  case c2 => rw [HM.out]; rfl
  case c3 => rw [HM.out, hz2]; decide
  case c4 => rw [HM.out]; decide
  case c5 => exact Nat.le_refl _
  case c6 =>
    intro W1 hown0 hgrow
    have HBg : Below w1.heap.size w1 W1 := (Below.refl _ _).grown hgrow (Nat.le_refl _) (fun k hk => by cases hk)
    clear hgrow
    go_wp2_with fail
    go_loopw [26] (fun vi wr => ∃ j : Nat, vi = .int .i64 j ∧ j ≤ m ∧ wr.ownsRow (w1.heap.size) 5 1 (.slice (some ⟨w1.heap.size, 0, none⟩) m m) m (List.replicate j (.int .u8 32) ++ List.replicate (m - j) (.int .u8 0)) ∧ Below (w1.heap.size) w1 wr) (fun vi _ => m - (intOf vi).toNat)
    case atStart =>
      refine ⟨0, rfl, by omega, ?_, HBg⟩
      rw [toList_madeCells_one] at hown0
      exact hown0
    case round =>
      obtain ⟨j, rfl, hj, hown, hbw⟩ := hrel
      by_cases hlt : j < m
      · have hcell := hown.cellAt j (by omega)
        rw [fill_get j m hlt] at hcell
        have hfr := hown.frozenAt j
        have hst := (hown.stored j (.int .u8 32)).1
        rw [fill_set j m hlt] at hst
        have hbs := hbw.setCell (p := ⟨w1.heap.size, j, none⟩) (Nat.le_refl _) (.int .u8 32)
        have X : Hid (_ ∧ _) := ⟨hst, hbs⟩
        clear hst hbs hown hbw
        go_wp2
        go_roundw
        case rel => exact ⟨j + 1, by go_num, by omega, X.out.1, X.out.2⟩
        case measure => simp [intOf]; omega
      · obtain rfl : m = j := by omega
        rw [Nat.sub_self, List.replicate_zero, List.append_nil] at hown
        have hcv := own_bytes (b := 32) hown
        have hgr := hg1.below hbw
        have HS1 : Hid (scanM (List.replicate m 32) = .ok [{ kind := 0, text := [], at_ := m, value := 0, uns := false, long := false }]) := Lib.hid (scan_sp m (by rw [HM.out]; omega))
        have c1 := Lib.hid (fun w hg => scan_any (B (List.replicate m 32)) (by rw [B_size, List.length_replicate]; omega) w hg)
        have hb1 := hb.trans (hbw.mono hb.size)
        have HB1 := Lib.hid hb1
        have hz1' := hb1.size
        clear hown hbw hown0 HBg hb hb1 hg1
        go_wp2_with fail
        refine (c1.out _ hgr).mono ?_
        rintro e w2 ⟨hr1, hb2⟩
        rw [B_list, HS1.out] at hr1
        obtain ⟨v1, rfl, hown1⟩ := hr1
        have hg2 := hgr.below hb2
        have hbt := HB1.out.trans (hb2.mono hz1')
        have HB2 := Lib.hid hbt
        have hz2' := hbt.size
        clear hown1
        clear hb2 hgr HB1 hbt hcv
        go_wp2_with (at_make; go_must (refine wpList_make_full _ rfl _ _ 37 rfl (w2.heap.size + 1) 5 i0 (.int .u8 0) 1 Tryd.underlying37 hi hz0 hz1 .i64 .i64 39 39 k rfl rfl ?d1 ?d2 ?d3 ?d4 ?d5 ?d6))
        case d1 => rw [HKK.out]; rfl
        case d2 => rw [HKK.out]; rfl
        case d3 => rw [HKK.out, hz2]; decide
        case d4 => rw [HKK.out]; decide
        case d5 => simp
        case d6 =>
          intro W3 hown3 hgrow3
          have hb3 : Below (w2.heap.size + 1) (w2.alloc (.cells #[.int .i64 0, .int .i64 0] 26)) W3 := (Below.refl _ _).grown hgrow3 (by simp) (fun k hk => by cases hk)
          have hb3' : Below w2.heap.size w2 W3 := ((Below.refl _ _).alloc (Nat.le_refl _) _).trans (hb3.mono (by omega))
          have f1a : W3.cell? ⟨w2.heap.size, 0, none⟩ = some (.int .i64 0) := by rw [hb3.cell (p := ⟨w2.heap.size, 0, none⟩) (by simp)]; simp
          have f1b : W3.cell? ⟨w2.heap.size, 1, none⟩ = some (.int .i64 0) := by rw [hb3.cell (p := ⟨w2.heap.size, 1, none⟩) (by simp)]; simp
          have hg3 := hg2.below hb3'
          have hbt := HB2.out.trans (hb3'.mono hz2')
          have HB3 := Lib.hid hbt
          have hz3 := hbt.size
          have hz3' : w2.heap.size + 1 ≤ W3.heap.size := by have := hb3.size; simp at this; exact this
          have F := Lib.hid (And.intro f1a f1b)
          clear hgrow3 hb3 hb3' HB2 hbt f1a f1b
          go_wp2_with fail
          go_loopw [44] (fun vi wr => ∃ j : Nat, vi = .int .i64 j ∧ j ≤ k ∧ wr.ownsRow (w2.heap.size + 1) 5 1 (.slice (some ⟨w2.heap.size + 1, 0, none⟩) k k) k (List.replicate j (.int .u8 120) ++ List.replicate (k - j) (.int .u8 0)) ∧ Below (w2.heap.size + 1) W3 wr) (fun vi _ => k - (intOf vi).toNat)
          case atStart =>
            refine ⟨0, rfl, by omega, ?_, Below.refl _ _⟩
            rw [toList_madeCells_one] at hown3
            exact hown3
          case round =>
            obtain ⟨j, rfl, hj, hown, hbw⟩ := hrel
            by_cases hlt : j < k
            · have hcell := hown.cellAt j (by omega)
              rw [fill_get j k hlt] at hcell
              have hfr := hown.frozenAt j
              have hst := (hown.stored j (.int .u8 120)).1
              rw [fill_set j k hlt] at hst
              have hbs := hbw.setCell (p := ⟨w2.heap.size + 1, j, none⟩) (Nat.le_refl _) (.int .u8 120)
              have X : Hid (_ ∧ _) := ⟨hst, hbs⟩
              clear hst hbs hown hbw
              go_wp2
              go_roundw
              case rel => exact ⟨j + 1, by go_num, by omega, X.out.1, X.out.2⟩
              case measure => simp [intOf]; omega
            · obtain rfl : k = j := by omega
              rw [Nat.sub_self, List.replicate_zero, List.append_nil] at hown
              have hcv := own_bytes (b := 120) hown
              have hbw3 : Below w2.heap.size W3 _ := hbw.mono (by omega)
              have hgr := hg3.low hbw (by have := hg2.size; omega)
              have hfa := (hbw.cell (p := ⟨w2.heap.size, 0, none⟩) (by simp)).trans F.out.1
              have hfb := (hbw.cell (p := ⟨w2.heap.size, 1, none⟩) (by simp)).trans F.out.2
              have HS2 : Hid (scanM (List.replicate k 120) = .ok [{ kind := 1, text := List.replicate 39 120, at_ := 0, value := 0, uns := false, long := false }, { kind := 0, text := [], at_ := 39, value := 0, uns := false, long := false }]) := Lib.hid (by rw [HKK.out]; exact lim2_name)
              have c2 := Lib.hid (fun w hg => scan_any (B (List.replicate k 120)) (by rw [B_size, List.length_replicate]; omega) w hg)
              have hb4 := HB3.out.trans (hbw.mono (by omega))
              have HB4 := Lib.hid hb4
              have hz4 := hb4.size
              have hz4' : w2.heap.size + 1 < wr.heap.size := by
                have h0 : (List.replicate k (Value.int .u8 120))[0]? = some (.int .u8 120) := by rw [HKK.out]; rfl
                have := (hown.cellAt 0 (by rw [HKK.out]; decide)).trans h0
                exact World.block_lt_of_cell? _ _ this
              have hz4b : w2.heap.size < wr.heap.size := by omega
              have F4 := Lib.hid (And.intro hfa hfb)
              clear hown hbw hown3 hb4 hbw3 hfa hfb hg3 hg2
              go_wp2_with fail
              refine (c2.out _ hgr).mono ?_
              rintro e w4 ⟨hr2, hb5⟩
              rw [B_list, HS2.out] at hr2
              obtain ⟨v2, rfl, hown2⟩ := hr2
              have hg4 := hgr.below hb5
              have hfa := (hb5.cell (p := ⟨w2.heap.size, 0, none⟩) hz4b).trans F4.out.1
              have hfb := (hb5.cell (p := ⟨w2.heap.size, 1, none⟩) hz4b).trans F4.out.2
              have hb6 := HB4.out.trans (hb5.mono hz4)
              have hz5 := hb6.size
              have hz5' : w2.heap.size + 1 < w4.heap.size := by have := hb5.size; omega
              have HB6 := Lib.hid hb6
              have hne : ¬ w2.heap.size = w4.heap.size := by omega
              have hne2 : ¬ w2.heap.size = w4.heap.size + 1 := by omega
              have c3 := Lib.hid (fun w hg => scan_any ⟨#[49, 56, 52, 52, 54, 55, 52, 52, 48, 55, 51, 55, 48, 57, 53, 53, 49, 54, 49, 53]⟩ (by decide) w hg)
              have hb7 : Below w.heap.size w ((w4.alloc (.cells #[.int .i64 0, .int .i64 0] 26)).alloc (.cells #[.string ⟨#[49, 56, 52, 52, 54, 55, 52, 52, 48, 55, 51, 55, 48, 57, 53, 53, 49, 54, 49, 51]⟩, .string ⟨#[49, 56, 52, 52, 54, 55, 52, 52, 48, 55, 51, 55, 48, 57, 53, 53, 49, 54, 49, 52]⟩, .string ⟨#[49, 56, 52, 52, 54, 55, 52, 52, 48, 55, 51, 55, 48, 57, 53, 53, 49, 54, 49, 53]⟩, .string ⟨#[49, 56, 52, 52, 54, 55, 52, 52, 48, 55, 51, 55, 48, 57, 53, 53, 49, 54, 49, 54]⟩, .string ⟨#[49, 56, 52, 52, 54, 55, 52, 52, 48, 55, 51, 55, 48, 57, 53, 53, 49, 54, 49, 55]⟩, .string ⟨#[49, 56, 52, 52, 54, 55, 52, 52, 48, 55, 51, 55, 48, 57, 53, 53, 49, 54, 49, 56]⟩] 9)) := (hb6.alloc hz5 _).alloc (by simp; omega) _
              have HB7 := Lib.hid hb7
              have hg5 : G ((w4.alloc (.cells #[.int .i64 0, .int .i64 0] 26)).alloc (.cells #[.string ⟨#[49, 56, 52, 52, 54, 55, 52, 52, 48, 55, 51, 55, 48, 57, 53, 53, 49, 54, 49, 51]⟩, .string ⟨#[49, 56, 52, 52, 54, 55, 52, 52, 48, 55, 51, 55, 48, 57, 53, 53, 49, 54, 49, 52]⟩, .string ⟨#[49, 56, 52, 52, 54, 55, 52, 52, 48, 55, 51, 55, 48, 57, 53, 53, 49, 54, 49, 53]⟩, .string ⟨#[49, 56, 52, 52, 54, 55, 52, 52, 48, 55, 51, 55, 48, 57, 53, 53, 49, 54, 49, 54]⟩, .string ⟨#[49, 56, 52, 52, 54, 55, 52, 52, 48, 55, 51, 55, 48, 57, 53, 53, 49, 54, 49, 55]⟩, .string ⟨#[49, 56, 52, 52, 54, 55, 52, 52, 48, 55, 51, 55, 48, 57, 53, 53, 49, 54, 49, 56]⟩] 9)) := hg4.below (((Below.refl _ _).alloc (Nat.le_refl _) _).alloc (by simp) _)
              have HG5 := Lib.hid hg5
              have hz7 := hb7.size
              clear hb5 hb6 hb7 HB4 HB3 hgr hcv hg4 hg5 hown2
              go_wp2_with fail
              refine (c3.out _ HG5.out).mono ?_
              rintro e w5 ⟨hr3, hb8⟩
              rw [show scanM (ByteArray.mk #[49, 56, 52, 52, 54, 55, 52, 52, 48, 55, 51, 55, 48, 57, 53, 53, 49, 54, 49, 53]).data.toList = _ from lim2_digits] at hr3
              obtain ⟨v3, rfl, hown5⟩ := hr3
              obtain ⟨g, cap, rfl, hbg, hcap, hmx, hc⟩ := own_cells hown5 (by decide)
              have g4 : w5.cell? ⟨g, 3, none⟩ = some (.int .u64 18446744073709551615) := hc 3 (by decide)
              have hgl : g < w5.heap.size := World.block_lt_of_cell? w5 _ g4
              clear hown5 hc
              have hbW : Below w4.heap.size w4 ((w4.alloc (.cells #[.int .i64 0, .int .i64 0] 26)).alloc (.cells #[.string ⟨#[49, 56, 52, 52, 54, 55, 52, 52, 48, 55, 51, 55, 48, 57, 53, 53, 49, 54, 49, 51]⟩, .string ⟨#[49, 56, 52, 52, 54, 55, 52, 52, 48, 55, 51, 55, 48, 57, 53, 53, 49, 54, 49, 52]⟩, .string ⟨#[49, 56, 52, 52, 54, 55, 52, 52, 48, 55, 51, 55, 48, 57, 53, 53, 49, 54, 49, 53]⟩, .string ⟨#[49, 56, 52, 52, 54, 55, 52, 52, 48, 55, 51, 55, 48, 57, 53, 53, 49, 54, 49, 54]⟩, .string ⟨#[49, 56, 52, 52, 54, 55, 52, 52, 48, 55, 51, 55, 48, 57, 53, 53, 49, 54, 49, 55]⟩, .string ⟨#[49, 56, 52, 52, 54, 55, 52, 52, 48, 55, 51, 55, 48, 57, 53, 53, 49, 54, 49, 56]⟩] 9)) := ((Below.refl _ _).alloc (Nat.le_refl _) _).alloc (by simp) _
              have hz8 : w2.heap.size < ((w4.alloc (.cells #[.int .i64 0, .int .i64 0] 26)).alloc (.cells #[.string ⟨#[49, 56, 52, 52, 54, 55, 52, 52, 48, 55, 51, 55, 48, 57, 53, 53, 49, 54, 49, 51]⟩, .string ⟨#[49, 56, 52, 52, 54, 55, 52, 52, 48, 55, 51, 55, 48, 57, 53, 53, 49, 54, 49, 52]⟩, .string ⟨#[49, 56, 52, 52, 54, 55, 52, 52, 48, 55, 51, 55, 48, 57, 53, 53, 49, 54, 49, 53]⟩, .string ⟨#[49, 56, 52, 52, 54, 55, 52, 52, 48, 55, 51, 55, 48, 57, 53, 53, 49, 54, 49, 54]⟩, .string ⟨#[49, 56, 52, 52, 54, 55, 52, 52, 48, 55, 51, 55, 48, 57, 53, 53, 49, 54, 49, 55]⟩, .string ⟨#[49, 56, 52, 52, 54, 55, 52, 52, 48, 55, 51, 55, 48, 57, 53, 53, 49, 54, 49, 56]⟩] 9)).heap.size := by rw [World.size_alloc, World.size_alloc]; omega
              have g1 : w5.cell? ⟨w2.heap.size, 0, none⟩ = some (.int .i64 0) := by rw [hb8.cell (p := ⟨w2.heap.size, 0, none⟩) hz8]; exact cell_below hbW (Nat.le_refl _) hfa
              have g2 : w5.cell? ⟨w2.heap.size, 1, none⟩ = some (.int .i64 0) := by rw [hb8.cell (p := ⟨w2.heap.size, 1, none⟩) hz8]; exact cell_below hbW (Nat.le_refl _) hfb
              have g3 : w5.cell? ⟨w4.heap.size, 0, none⟩ = some (.int .i64 0) := by rw [hb8.cell (p := ⟨w4.heap.size, 0, none⟩) (by simp; omega)]; simp
              have hbE := HB7.out.trans (hb8.mono hz7)
              have HBE := Lib.hid hbE
              have hzE := hbE.size
              have hzE' : w4.heap.size + 1 < w5.heap.size := by have := hb8.size; simp at this; omega
              have hlt1 : w2.heap.size < w5.heap.size := by omega
              have hlt2 : w4.heap.size < w5.heap.size := by omega
              clear hb8 hbE hfa hfb HB7
              go_wp2
              go_ret
              exact ⟨rfl, HBE.out.alloc hzE _⟩
end Go.Proofs.YtlfpeoeopkkpgaaDoor

