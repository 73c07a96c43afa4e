import Derived.Test.YtdkhanjfncbfnaaOsF
import Derived.Laws.BitsLemmas
namespace Go.Proofs.Ytdkhanjfncbfnaa
open Go Go.RowKit
set_option linter.unusedVariables false
set_option linter.unusedSimpArgs false

/-- What a cell holds. -/
structure Cl where
  h : Int
  b : Int
  k : Int
  o : Int
  f : Int
/-- n cells of block c from co on. -/
def Cells5 (w : World) (c co n : Nat) (C : Nat → Cl) : Prop := ∀ i, i < n → w.cell? ⟨c, co + i * 5, none⟩ = some (.int .u8 (C i).h) ∧ w.cell? ⟨c, co + i * 5 + 1, none⟩ = some (.int .u8 (C i).b) ∧ w.cell? ⟨c, co + i * 5 + 2, none⟩ = some (.int .i64 (C i).k) ∧ w.cell? ⟨c, co + i * 5 + 3, none⟩ = some (.int .i64 (C i).o) ∧ w.cell? ⟨c, co + i * 5 + 4, none⟩ = some (.int .i64 (C i).f)
theorem Cells5.below {w w' : World} {c co n lim : Nat} {C : Nat → Cl} (h : Cells5 w c co n C) (hb : Below lim w w') (hl : c < lim) : Cells5 w' c co n C := fun i hi => by
  obtain ⟨h0, h1, h2, h3, h4⟩ := h i hi
  exact ⟨by rw [hb.cell (by exact hl)]; exact h0, by rw [hb.cell (by exact hl)]; exact h1, by rw [hb.cell (by exact hl)]; exact h2, by rw [hb.cell (by exact hl)]; exact h3, by rw [hb.cell (by exact hl)]; exact h4⟩
/-- The number of the first k bytes. -/
def sumB (B : Nat → Int) : Nat → Int
  | 0 => 0
  | k + 1 => sumB B k + B k * 256 ^ k
theorem sumB_range (B : Nat → Int) : ∀ k, (∀ i, i < k → 0 ≤ B i ∧ B i ≤ 255) → 0 ≤ sumB B k ∧ sumB B k < 256 ^ k
  | 0, _ => ⟨by simp [sumB], by simp [sumB]⟩
  | k + 1, h => by
    obtain ⟨h1, h2⟩ := sumB_range B k (fun i hi => h i (by omega))
    obtain ⟨b1, b2⟩ := h k (by omega)
    have hp : (0 : Int) < 256 ^ k := Int.pow_pos (by omega)
    have h3 : 0 ≤ B k * 256 ^ k := Int.mul_nonneg b1 (by omega)
    have h4 : B k * 256 ^ k ≤ 255 * 256 ^ k := Int.mul_le_mul_of_nonneg_right b2 (by omega)
    rw [sumB, Int.pow_succ]
    omega
theorem bits_or_comm (q : IntKind) (x y : Int) : bits .or q x y = bits .or q y x := by
  unfold bits
  simp only [BitVec.or_comm]
theorem wraps_u64 (n : Int) (h0 : 0 ≤ n) (h1 : n < 2 ^ 64) : IntKind.u64.wrap n = n := by
  rw [IntKind.wrap_u64]; omega
theorem or_byte (k : Nat) (hk : k < 8) (N B : Int) (h0 : 0 ≤ N) (h1 : N < 256 ^ k) (b0 : 0 ≤ B) (b1 : B ≤ 255) : bits .or .u64 N (IntKind.u64.wrap (B * 2 ^ (8 * k))) = N + B * 256 ^ k := by
  have hp : (256 : Int) ^ k = 2 ^ (8 * k) := by rw [Int.pow_mul]; rfl
  rw [hp] at h1 ⊢
  have hk' : k = 0 ∨ k = 1 ∨ k = 2 ∨ k = 3 ∨ k = 4 ∨ k = 5 ∨ k = 6 ∨ k = 7 := by omega
  have hw : IntKind.u64.wrap (B * 2 ^ (8 * k)) = B * 2 ^ (8 * k) := by
    apply wraps_u64
    · exact Int.mul_nonneg b0 (Int.le_of_lt (Int.pow_pos (by omega)))
    · rcases hk' with rfl | rfl | rfl | rfl | rfl | rfl | rfl | rfl <;> simp <;> omega
  rw [hw, bits_or_comm, bits_join .u64 64 (by decide) wraps_u64 (8 * k) (B * 2 ^ (8 * k)) N (Int.mul_nonneg b0 (Int.le_of_lt (Int.pow_pos (by omega)))) (Int.mul_emod_left _ _) ?_ h0 h1 ?_]
  · omega
  · rcases hk' with rfl | rfl | rfl | rfl | rfl | rfl | rfl | rfl <;> simp <;> omega
  · rcases hk' with rfl | rfl | rfl | rfl | rfl | rfl | rfl | rfl <;> simp at h1 ⊢ <;> omega
def valOf (sg : Bool) (sz : Nat) (N : Int) : Int := if sg then (if 2 * N < 256 ^ sz then N else N - 256 ^ sz) else IntKind.i64.wrap N
def numV (x : Int) : Value := .agg #[.int .i64 x, .int .i64 0, .int .i64 0, .int .i64 0, .bool false]

set_option maxRecDepth 100000 in
set_option maxHeartbeats 8000000 in
theorem number_yes (s so c co sz r : Nat) (hsz : Sz sz) (hr : r ≤ 1000000000) (sg : Bool) (C : Nat → Cl) (hh : ∀ i, i < sz → (C i).h = 1 ∧ 0 ≤ (C i).b ∧ (C i).b ≤ 255) (w : World) (hC : Cells5 w c co sz C) (hcl : c < w.heap.size) :
    Calls Try.prog 48 #[.agg #[.slice (some ⟨s, so, none⟩) sz r, .slice (some ⟨c, co, none⟩) sz r], .bool sg] w fun e w' => e = .returned (.tuple #[numV (valOf sg sz (sumB (fun i => (C i).b) sz)), .bool true]) ∧ Below w.heap.size w w' := by
  have hsz8 : sz ≤ 8 := by rcases hsz with h | h | h | h <;> omega
  have HC := Lib.hid hC
  have HH := Lib.hid hh
  clear hC hh
  go_enter Try.func48, Try.ntmps48
  go_wp2_with fail
  generalize hW : (w.alloc (.cells #[.slice (some ⟨s, so, none⟩) sz r, .slice (some ⟨c, co, none⟩) sz r] 102)).alloc (.cells #[.int .i64 0, .int .i64 0, .int .i64 0, .int .i64 0, .bool false] 74) = W
  have hbW : Below w.heap.size w W := by rw [← hW]; exact ((Below.refl _ _).alloc (Nat.le_refl _) _).alloc (by simp) _
  have hsW : W.heap.size = w.heap.size + 2 := by rw [← hW]; simp
  have o1 : W.cell? ⟨w.heap.size, 1, none⟩ = some (.slice (some ⟨c, co, none⟩) sz r) := by rw [← hW]; simp
  have y0 : W.cell? ⟨w.heap.size + 1, 0, none⟩ = some (.int .i64 0) := by rw [← hW]; exact cell_new _ _ _ _ _ (by simp)
  have y1 : W.cell? ⟨w.heap.size + 1, 1, none⟩ = some (.int .i64 0) := by rw [← hW]; exact cell_new _ _ _ _ _ (by simp)
  have y2 : W.cell? ⟨w.heap.size + 1, 2, none⟩ = some (.int .i64 0) := by rw [← hW]; exact cell_new _ _ _ _ _ (by simp)
  have y3 : W.cell? ⟨w.heap.size + 1, 3, none⟩ = some (.int .i64 0) := by rw [← hW]; exact cell_new _ _ _ _ _ (by simp)
  have y4 : W.cell? ⟨w.heap.size + 1, 4, none⟩ = some (.bool false) := by rw [← hW]; exact cell_new _ _ _ _ _ (by simp)
  have z : ∀ j, W.frozen? ⟨w.heap.size + 1, j, none⟩ = false := fun j => by rw [← hW]; exact frozen_new _ _ _ _ _ (by simp)
  have HBW := Lib.hid hbW
  have HSW := Lib.hid hsW
  have HY := Lib.hid (And.intro y0 (And.intro y1 (And.intro y2 (And.intro y3 (And.intro y4 (And.intro o1 z))))))
  clear hW hbW hsW y0 y1 y2 y3 y4 o1 z
  go_loopw [13, 6] (fun s13 s6 wr => ∃ (k : Nat) (N : Int), s13 = .int .i64 k ∧ s6 = .int .u64 N ∧ k ≤ sz ∧ Hid (N = sumB (fun i => (C i).b) k) ∧ Below W.heap.size W wr) (fun s13 _ _ => sz - (intOf s13).toNat)
  case atStart => exact ⟨0, 0, rfl, rfl, by omega, Lib.hid rfl, Below.refl _ _⟩
  case round =>
    obtain ⟨k, N, rfl, rfl, hk, HN, hb⟩ := hrel
    have HB := Lib.hid hb
    by_cases hlt : k < sz
    · obtain ⟨c0, c1, c2, c3, c4⟩ := (HC.out.below HBW.out hcl).below hb (by have := HSW.out; omega) k hlt
      obtain ⟨q0, q1, q2⟩ := HH.out k hlt
      rw [q0] at c0
      obtain ⟨B, hB⟩ : ∃ B, B = (C k).b := ⟨_, rfl⟩
      rw [← hB] at c1 q1 q2
      have HBE := Lib.hid hB
      have hkl : (k : Int) < sz := by omega
      clear hb q0 hB
      go_wp2_with fail
      go_roundw
      case rel =>
        have hrg := sumB_range (fun i => (C i).b) k (fun i hi => (HH.out i (by omega)).2)
        have hN := HN.out
        have hs := HB.out.size
        exact ⟨k + 1, _, by go_num, rfl, by omega, Lib.hid (by rw [or_byte k (by omega) N B (by rw [hN]; exact hrg.1) (by rw [hN]; exact hrg.2) q1 q2, hN, HBE.out]; rfl), HB.out.alloc hs _⟩
      case measure => simp [intOf]; omega
    · obtain rfl : k = sz := by omega
      obtain ⟨y0, y1, y2, y3, y4, o1, z⟩ := HY.out
      have hbs := HSW.out
      have w0 : wr.cell? ⟨w.heap.size + 1, 0, none⟩ = some (.int .i64 0) := by rw [hb.cell (by show w.heap.size + 1 < W.heap.size; omega)]; exact y0
      have w1 : wr.cell? ⟨w.heap.size + 1, 1, none⟩ = some (.int .i64 0) := by rw [hb.cell (by show w.heap.size + 1 < W.heap.size; omega)]; exact y1
      have w2 : wr.cell? ⟨w.heap.size + 1, 2, none⟩ = some (.int .i64 0) := by rw [hb.cell (by show w.heap.size + 1 < W.heap.size; omega)]; exact y2
      have w3 : wr.cell? ⟨w.heap.size + 1, 3, none⟩ = some (.int .i64 0) := by rw [hb.cell (by show w.heap.size + 1 < W.heap.size; omega)]; exact y3
      have w4 : wr.cell? ⟨w.heap.size + 1, 4, none⟩ = some (.bool false) := by rw [hb.cell (by show w.heap.size + 1 < W.heap.size; omega)]; exact y4
      have w5 : wr.cell? ⟨w.heap.size, 1, none⟩ = some (.slice (some ⟨c, co, none⟩) k r) := by rw [hb.cell (by show w.heap.size < W.heap.size; omega)]; exact o1
      have v0 : wr.frozen? ⟨w.heap.size + 1, 0, none⟩ = false := by rw [hb.frozen (by show w.heap.size + 1 < W.heap.size; omega)]; exact z 0
      have v1 : wr.frozen? ⟨w.heap.size + 1, 1, none⟩ = false := by rw [hb.frozen (by show w.heap.size + 1 < W.heap.size; omega)]; exact z 1
      have v2 : wr.frozen? ⟨w.heap.size + 1, 2, none⟩ = false := by rw [hb.frozen (by show w.heap.size + 1 < W.heap.size; omega)]; exact z 2
      have v3 : wr.frozen? ⟨w.heap.size + 1, 3, none⟩ = false := by rw [hb.frozen (by show w.heap.size + 1 < W.heap.size; omega)]; exact z 3
      have v4 : wr.frozen? ⟨w.heap.size + 1, 4, none⟩ = false := by rw [hb.frozen (by show w.heap.size + 1 < W.heap.size; omega)]; exact z 4
      clear hb y0 y1 y2 y3 y4 o1 z
      have hrg := sumB_range (fun i => (C i).b) k (fun i hi => (HH.out i (by omega)).2)
      rw [← HN.out] at hrg
      obtain ⟨n0, n1⟩ := hrg
      have HN0 := Lib.hid n0
      have HN1 := Lib.hid n1
      have hbv : Below w.heap.size w wr := HBW.out.trans (HB.out.mono HBW.out.size)
      have HBV := Lib.hid hbv
      clear n0 n1 hbv HY HC HH
      rcases hsz with rfl | rfl | rfl | rfl <;> cases sg
      all_goals
        go_wp2_with fail
        have hbv := HBV.out
        have n0 := HN0.out
        have n1 := HN1.out
        refine bodyPost_ret (v := .tuple #[numV (valOf _ _ N), .bool true]) ?_ rfl ⟨by rw [HN.out], ?_⟩
        · simp [results, Try.results48, go_sem, numV, valOf, w0, w1, w2, w3, w4, wrap64]
          simp at n1
          first | (rw [IntKind.wrap_i64]; done) | (rw [IntKind.wrap_u64]; split <;> omega)
        · ((repeat (first | (with_reducible exact hbv) | (with_reducible apply Below.setCell) | (with_reducible apply Below.alloc) | (with_reducible apply Below.drew))) <;> first | omega | (simp <;> omega))
end Go.Proofs.Ytdkhanjfncbfnaa
