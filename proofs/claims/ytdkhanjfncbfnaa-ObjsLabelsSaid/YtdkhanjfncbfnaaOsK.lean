import Derived.Test.YtdkhanjfncbfnaaOsJ
namespace Go.Proofs.Ytdkhanjfncbfnaa
open Go Go.RowKit
set_option linter.unusedVariables false
set_option linter.unusedSimpArgs false

theorem alloc_at (w : World) (o : Obj) : (w.alloc o).heap[w.heap.size]? = some o := heap_alloc_new w o
theorem alloc3_at (w : World) (a0 a1 a2 : Obj) (i : Nat) (o : Obj) (h : [a0, a1, a2][i]? = some o) : ((((w.alloc a0).alloc a1).alloc a2).drew).heap[w.heap.size + i]? = some o := by
  show (((w.alloc a0).alloc a1).alloc a2).heap[w.heap.size + i]? = some o
  have h2 := alloc_at ((w.alloc a0).alloc a1) a2
  have h1 := alloc_at (w.alloc a0) a1
  have h0 := alloc_at w a0
  simp only [World.size_alloc] at h1 h2
  match i, h with
  | 0, h =>
    obtain rfl : a0 = o := by simpa using h
    rw [Below.heap_alloc _ _ _ (by simp; omega), Below.heap_alloc _ _ _ (by simp)]; exact h0
  | 1, h =>
    obtain rfl : a1 = o := by simpa using h
    rw [Below.heap_alloc _ _ _ (by simp)]; exact h1
  | 2, h =>
    obtain rfl : a2 = o := by simpa using h
    exact h2
  | i + 3, h => simp at h

def zeroCs : Array Value := #[.int .u8 0, .int .u8 0, .int .i64 0, .int .i64 0, .int .i64 0]
/-- Behind Make's new rows. -/
structure NewObj (W wx : World) (s c O N : Nat) : Prop where
  b : Below W.heap.size W wx
  s1 : W.heap.size ≤ s
  c1 : W.heap.size ≤ c
  o1 : W.heap.size ≤ O
  s2 : s < wx.heap.size
  c2 : c < wx.heap.size
  o2 : O < wx.heap.size
  sc : s ≠ c
  so : s ≠ O
  co : c ≠ O
  hs : wx.heap[s]? = some (.cells (madeCells #[.bool false] N) 4 (0, 0))
  hc : wx.heap[c]? = some (.cells (madeCells zeroCs (N * 5)) 121 (0, 0))
  ho : wx.heap[O]? = some (.cells #[.slice (some ⟨s, 0, none⟩) N N, .slice (some ⟨c, 0, none⟩) N N] 102 (0, 0))
theorem newObj3 (w : World) (N : Nat) (a0 a1 a2 : Obj) (i j k : Nat) (hi : i < 3) (hj : j < 3) (hk : k < 3) (hij : i ≠ j) (hik : i ≠ k) (hjk : j ≠ k)
    (h1 : [a0, a1, a2][i]? = some (.cells (madeCells #[.bool false] N) 4)) (h2 : [a0, a1, a2][j]? = some (.cells (madeCells zeroCs (N * 5)) 121))
    (h3 : [a0, a1, a2][k]? = some (.cells #[.slice (some ⟨w.heap.size + i, 0, none⟩) N N, .slice (some ⟨w.heap.size + j, 0, none⟩) N N] 102)) :
    NewObj w (((w.alloc a0).alloc a1).alloc a2).drew (w.heap.size + i) (w.heap.size + j) (w.heap.size + k) N := by
  have hz : (((w.alloc a0).alloc a1).alloc a2).drew.heap.size = w.heap.size + 3 := by simp
  exact ⟨((((Below.refl _ _).alloc (Nat.le_refl _) _).alloc (by simp) _).alloc (by simp; omega) _).drew, by omega, by omega, by omega, by omega, by omega, by omega, by omega, by omega, by omega, alloc3_at w a0 a1 a2 i _ h1, alloc3_at w a0 a1 a2 j _ h2, alloc3_at w a0 a1 a2 k _ h3⟩
theorem Turn.setCells (b : Nat) : ∀ (vs : List Value) (o : Nat) (w : World), Turn b w (w.setCells b o vs)
  | [], o, w => Turn.refl _ _
  | v :: vs, o, w => (Turn.set ⟨b, o, none⟩ rfl v).trans (Turn.setCells b vs (o + 1) (w.setCell ⟨b, o, none⟩ v))
theorem cell_heap {w : World} {b : Nat} {cs : Array Value} {T : TypeId} {fr : Nat × Nat} (hb : w.heap[b]? = some (.cells cs T fr)) (j : Nat) : w.cell? ⟨b, j, none⟩ = cs[j]? := by
  simp [World.cell?, hb]
theorem frozen_heap {w : World} {b : Nat} {cs : Array Value} {T : TypeId} (hb : w.heap[b]? = some (.cells cs T (0, 0))) (j : Nat) : w.frozen? ⟨b, j, none⟩ = false := by
  simp [World.frozen?, hb]
theorem NewObj.cells {W wx : World} {s c O N : Nat} (h : NewObj W wx s c O N) : Cells5 wx c 0 N (fun _ => ⟨0, 0, 0, 0, 0⟩) := by
  intro i hi
  have key : ∀ q, q < 5 → wx.cell? ⟨c, 0 + i * 5 + q, none⟩ = some (zeroCs[q]!) := by
    intro q hq
    rw [cell_heap h.hc]
    have h1 : i * 5 + q < N * 5 := by omega
    simp [madeCells, zeroCs, h1]
    rw [Nat.mod_eq_of_lt hq]
  exact ⟨key 0 (by omega), key 1 (by omega), key 2 (by omega), key 3 (by omega), key 4 (by omega)⟩
end Go.Proofs.Ytdkhanjfncbfnaa
