import Derived.Test.YtdkhanjfncbfnaaOsLC
namespace Go.Proofs.Ytdkhanjfncbfnaa
open Go Go.RowKit
set_option linter.unusedVariables false
set_option linter.unusedSimpArgs false

set_option maxRecDepth 100000 in
set_option maxHeartbeats 4000000 in
theorem paint_int (T : Tb) (k : Int) (b c : Bool) (N g o len cap at_ : Nat) (hk : k = N) (hN : at_ + N ≤ len) (hlc : len ≤ cap) (hcap : cap ≤ 1000000) (w : World) (hg : g < w.heap.size) (hl : Labs w g (o + at_) N (fun _ => false)) (hz : ∀ j, w.frozen? ⟨g, j, none⟩ = false) :
    Calls Try.prog 19 #[.pointer (some ⟨T.tb, 0, none⟩), (.agg #[.int .i64 1, .int .i64 k, .bool b, .bool c, .pointer none, .int .i64 0, .int .i64 0, .slice none 0 0, .pointer none]), .slice (some ⟨g, o, none⟩) len cap, .int .i64 (at_ : Int)] w (Paints g (o + at_) N (fun _ => c) w) := by
  subst hk
  have HL := Lib.hid hl
  have HZ := Lib.hid hz
  clear hl hz
  go_enter Try.func19, Try.ntmps19
  go_wp2_with fail
  generalize hW : w.alloc (.cells #[.int .i64 1, .int .i64 (N : Int), .bool b, .bool c, .pointer none, .int .i64 0, .int .i64 0, .slice none 0 0, .pointer none] 57) = W
  obtain ⟨X, hX⟩ : ∃ X, X = w.heap.size := ⟨_, rfl⟩
  rw [← hX]
  have hbW : Below w.heap.size w W := by rw [← hW]; exact (Below.refl _ _).alloc (Nat.le_refl _) _
  have HX3 : Hid (W.cell? ⟨X, 3, none⟩ = some (.bool c)) := Lib.hid (by rw [← hW, hX]; exact cell_new _ _ _ _ _ rfl)
  have hgX : X ≠ g := by omega
  have hXW : X < W.heap.size := by rw [← hW, hX]; simp
  have HBW := Lib.hid hbW
  clear hW hX hbW
  go_loopw [18] (fun s18 wr => ∃ i : Nat, s18 = .int .i64 i ∧ i ≤ N ∧ Hid (Turn g W wr) ∧ Hid (Labs wr g (o + at_) N (fun j => decide (j < i) && c)) ∧ Hid (∀ j, j < o + at_ ∨ o + at_ + N ≤ j → wr.cell? ⟨g, j, none⟩ = w.cell? ⟨g, j, none⟩)) (fun s18 _ => N - (intOf s18).toNat)
  case atStart => exact ⟨0, rfl, by omega, Lib.hid (Turn.refl _ _), Lib.hid (fun j hj => by have := (HL.out.below HBW.out hg) j hj; simpa using this), Lib.hid (fun j _ => HBW.out.cell (by exact hg))⟩
  case round =>
    obtain ⟨i, rfl, hi, HT, HLB, HO⟩ := hrel
    by_cases hlt : i < N
    · have hil : (i : Int) < N := by omega
      have x3 : wr.cell? ⟨X, 3, none⟩ = some (.bool c) := by rw [HT.out.cell (by exact hXW) (by exact hgX)]; exact HX3.out
      have hail : (at_ : Int) + i < len := by omega
      have l1 : wr.cell? ⟨g, o + (at_ + i), none⟩ = some (.bool (decide (i < i) && c)) := by rw [← Nat.add_assoc]; exact HLB.out i hlt
      have z1 : wr.frozen? ⟨g, o + (at_ + i), none⟩ = false := HT.out.fz _ (by rw [HBW.out.frozen (by exact hg)]; exact HZ.out _)
      have HL1 := Lib.hid l1
      go_wp2_with fail
      go_roundw
      case rel =>
        refine ⟨i + 1, by go_num, by omega, Lib.hid (HT.out.trans (Turn.set ⟨g, o + (at_ + i), none⟩ rfl _)), Lib.hid (fun j hj => ?_), Lib.hid (fun j hj => ?_)⟩
        · by_cases hji : j = i
          · subst hji
            rw [show o + at_ + j = o + (at_ + j) from by omega, World.cell?_setCell_same _ _ _ HL1.out]
            simp
          · rw [World.cell?_setCell_other _ _ _ _ (by simp <;> omega), HLB.out j hj]
            have : decide (j < i + 1) = decide (j < i) := by simp; omega
            show some (Value.bool (decide (j < i) && c)) = some (Value.bool (decide (j < i + 1) && c))
            rw [this]
        · rw [World.cell?_setCell_other _ _ _ _ (by simp <;> omega)]
          exact HO.out j hj
      case measure => simp [intOf]; omega
    · obtain rfl : N = i := by omega
      go_wp2_with fail
      go_end0
      exact ⟨rfl, (Turn.of HBW.out hg).trans HT.out, fun j hj => by have := HLB.out j hj; simpa [hj] using this, HO.out⟩

set_option maxRecDepth 100000 in
set_option maxHeartbeats 4000000 in
theorem paint_ptr (T : Tb) (el : Option Addr) (N g o len cap at_ : Nat) (w : World) (hg : g < w.heap.size) (hl : Labs w g (o + at_) N (fun _ => false)) :
    Calls Try.prog 19 #[.pointer (some ⟨T.tb, 0, none⟩), (.agg #[.int .i64 2, .int .i64 8, .bool false, .bool false, .pointer el, .int .i64 0, .int .i64 0, .slice none 0 0, .pointer none]), .slice (some ⟨g, o, none⟩) len cap, .int .i64 (at_ : Int)] w (Paints g (o + at_) N (fun _ => false) w) := by
  have HL := Lib.hid hl
  clear hl
  go_enter Try.func19, Try.ntmps19
  go_wp2_with fail
  go_end0
  have hb : Below w.heap.size w (w.alloc (.cells #[.int .i64 2, .int .i64 8, .bool false, .bool false, .pointer el, .int .i64 0, .int .i64 0, .slice none 0 0, .pointer none] 57)) := (Below.refl _ _).alloc (Nat.le_refl _) _
  exact ⟨rfl, Turn.of hb hg, HL.out.below hb hg, fun j _ => hb.cell (by exact hg)⟩
end Go.Proofs.Ytdkhanjfncbfnaa
