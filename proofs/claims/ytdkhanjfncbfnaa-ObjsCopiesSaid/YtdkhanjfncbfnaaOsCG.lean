import Derived.Test.YtdkhanjfncbfnaaOsCF
import Derived.Test.YtdkhanjfncbfnaaOsU
namespace Go.Proofs.Ytdkhanjfncbfnaa
open Go Go.RowKit
set_option linter.unusedVariables false
set_option linter.unusedSimpArgs false

theorem i64_and3 (n : Int) : bits .and .i64 n 3 = n % 4 := by
  have h3 : (BitVec.ofInt 64 3).toNat = 2 ^ 2 - 1 := by decide
  have key : (BitVec.ofInt 64 n &&& BitVec.ofInt 64 3).toNat = (n % ((2 ^ 64 : Nat) : Int)).toNat % 2 ^ 2 := by
    rw [BitVec.toNat_and, BitVec.toNat_ofInt, h3, Nat.and_two_pow_sub_one_eq_mod]
  show IntKind.i64.wrap ((BitVec.ofInt 64 n &&& BitVec.ofInt 64 3).toNat : Nat) = n % 4
  rw [key, IntKind.wrap_i64]
  omega
theorem i64_and63 (n : Int) : bits .and .i64 n 63 = n % 64 := by
  have h3 : (BitVec.ofInt 64 63).toNat = 2 ^ 6 - 1 := by decide
  have key : (BitVec.ofInt 64 n &&& BitVec.ofInt 64 63).toNat = (n % ((2 ^ 64 : Nat) : Int)).toNat % 2 ^ 6 := by
    rw [BitVec.toNat_and, BitVec.toNat_ofInt, h3, Nat.and_two_pow_sub_one_eq_mod]
  show IntKind.i64.wrap ((BitVec.ofInt 64 n &&& BitVec.ofInt 64 63).toNat : Nat) = n % 64
  rw [key, IntKind.wrap_i64]
  omega
/-- What the law puts into the eight bytes of a number. -/
def eltC (x : Int) (j : Nat) : Cl := if x % 4 = 0 then ⟨0, 0, 0, 0, 0⟩ else if x % 4 = 1 then ptrC 1 1 (x % 64) j else numC x j
def stC (xs : Nat → Int) (n : Nat) : Nat → Cl := fun i => if i < 8 * n then eltC (xs (i / 8)) (i % 8) else ⟨0, 0, 0, 0, 0⟩
theorem stC_zero (xs : Nat → Int) : stC xs 0 = fun _ => ⟨0, 0, 0, 0, 0⟩ := by funext i; unfold stC; rw [if_neg (by omega)]
theorem stC_at (xs : Nat → Int) (n k j : Nat) (hk : k < n) (hj : j < 8) : stC xs n (8 * k + j) = eltC (xs k) j := by
  unfold stC
  rw [if_pos (by omega), show (8 * k + j) / 8 = k from by omega, show (8 * k + j) % 8 = j from by omega]
theorem stC_step0 (xs : Nat → Int) (k : Nat) (h : xs k % 4 = 0) : stC xs (k + 1) = stC xs k := by
  funext i
  unfold stC
  by_cases h1 : i < 8 * k
  · rw [if_pos h1, if_pos (by omega)]
  · rw [if_neg h1]
    by_cases h2 : i < 8 * (k + 1)
    · rw [if_pos h2, show i / 8 = k from by omega]
      unfold eltC
      rw [if_pos h]
    · rw [if_neg h2]
theorem stC_step1 (xs : Nat → Int) (k : Nat) (h : xs k % 4 = 1) : stC xs (k + 1) = putP (stC xs k) (8 * k) 8 1 1 (xs k % 64) := by
  funext i
  unfold putP
  by_cases h1 : 8 * k ≤ i ∧ i < 8 * k + 8
  · rw [if_pos h1]
    have := stC_at xs (k + 1) k (i - 8 * k) (by omega) (by omega)
    rw [show 8 * k + (i - 8 * k) = i from by omega] at this
    rw [this]
    unfold eltC
    rw [if_neg (by omega), if_pos h]
  · rw [if_neg h1]
    unfold stC
    by_cases h2 : i < 8 * k
    · rw [if_pos h2, if_pos (by omega)]
    · rw [if_neg h2, if_neg (by omega)]
theorem stC_step2 (xs : Nat → Int) (k : Nat) (h0 : ¬ xs k % 4 = 0) (h : ¬ xs k % 4 = 1) : stC xs (k + 1) = putC (stC xs k) (8 * k) 8 (xs k) := by
  funext i
  unfold putC
  by_cases h1 : 8 * k ≤ i ∧ i < 8 * k + 8
  · rw [if_pos h1]
    have := stC_at xs (k + 1) k (i - 8 * k) (by omega) (by omega)
    rw [show 8 * k + (i - 8 * k) = i from by omega] at this
    rw [this]
    unfold eltC
    rw [if_neg h0, if_neg h]
  · rw [if_neg h1]
    unfold stC
    by_cases h2 : i < 8 * k
    · rw [if_pos h2, if_pos (by omega)]
    · rw [if_neg h2, if_neg (by omega)]
/-- Two objects of eighty public bytes each. -/
structure Two80 (W W' : World) (mb pb s c s2 c2 : Nat) : Prop where
  o0 : Ob W' mb pb #[{ key := .int .i64 0, val := objV s 0 c 0 80, born := 0 }, { key := .int .i64 1, val := objV s2 0 c2 0 80, born := 1 }] 2 0 s c 80 (fun _ => false) (fun _ => ⟨0, 0, 0, 0, 0⟩)
  o1 : Ob W' mb pb #[{ key := .int .i64 0, val := objV s 0 c 0 80, born := 0 }, { key := .int .i64 1, val := objV s2 0 c2 0 80, born := 1 }] 2 1 s2 c2 80 (fun _ => false) (fun _ => ⟨0, 0, 0, 0, 0⟩)
  cc : c ≠ c2
  sc : s ≠ c2
  cs : c ≠ s2
  os : W'.os = W.os
  tape : W'.tape = W.tape
  output : W'.output = W.output
  size : W.heap.size ≤ W'.heap.size
  keep : ∀ g, g < W.heap.size → g ≠ mb → W'.heap[g]? = W.heap[g]?
  hc : W.heap.size ≤ c
  hc2 : W.heap.size ≤ c2
  hp : W.heap.size ≤ pb
theorem two80_of {W W1 w3 w3' w4 : World} {mb pb s c s2 c2 : Nat} (hmb : mb < W.heap.size) (hb : Below W.heap.size W W1) (h1 : Made1 W1 w3 mb 80 (fun _ => false) pb s c) (hb3 : Below w3.heap.size w3 w3') (h2 : Made w3' w4 mb pb 1 80 #[{ key := .int .i64 0, val := objV s 0 c 0 80, born := 0 }] 1 (fun _ => false) s2 c2) : Two80 W w4 mb pb s c s2 c2 := by
  have hz := hb.size
  have hz1 := h1.size
  have hz3 := hb3.size
  have p1 := h1.p1
  have s1 := h1.s1
  have cc1 := h1.c1
  have ss2 := h1.s2
  have cc2 := h1.c2
  have q1 := h2.s1
  have q2 := h2.c1
  have hpb3 : pb < w3.heap.size := (Array.getElem?_eq_some_iff.1 h1.mem.hb).1
  have hpm := h1.mem.ne
  have o := (h1.ob (by omega) (by omega)).below hb3
  have ks : w4.heap[s]? = w3'.heap[s]? := h2.keep s (by omega) (by omega) h1.sp
  have kc : w4.heap[c]? = w3'.heap[c]? := h2.keep c (by omega) (by omega) h1.cp
  refine ⟨⟨h2.mem.c1, h2.mem.hb, ⟨0, rfl⟩, fun i hi => by rw [World.cell?_of_block ks]; exact o.labs i hi, fun i hi => ?_, fun j => by rw [World.frozen?_of_block kc]; exact o.fz j, by have := h2.size; omega, by have := h2.size; omega, h1.sc, by omega, h1.cp, by omega⟩,
    ⟨h2.mem.c1, h2.mem.hb, ⟨1, rfl⟩, h2.labs, h2.cells, h2.fz, h2.s2, h2.c2, h2.sc, by omega, by omega, by omega⟩, by omega, by omega, by omega,
    ?_, ?_, ?_, ?_, ?_, by omega, by omega, by omega⟩
  · obtain ⟨e0, e1, e2, e3, e4⟩ := o.cells i hi
    exact ⟨by rw [World.cell?_of_block kc]; exact e0, by rw [World.cell?_of_block kc]; exact e1, by rw [World.cell?_of_block kc]; exact e2, by rw [World.cell?_of_block kc]; exact e3, by rw [World.cell?_of_block kc]; exact e4⟩
  · exact h2.os.trans (hb3.os.trans (h1.os.trans hb.os))
  · exact h2.tape.trans (hb3.tape.trans (h1.tape.trans hb.tape))
  · exact h2.output.trans (hb3.output.trans (h1.output.trans hb.output))
  · have := h2.size; omega
  · intro g hg hne
    rw [h2.keep g (by omega) hne (by omega), hb3.block g (by omega), h1.keep g (by omega) hne, hb.block g hg]
structure BgC (w : World) (X Y : Nat) (el : Option Addr) : Prop where
  x0 : w.cell? ⟨X, 0, none⟩ = some (.int .i64 1)
  x1 : w.cell? ⟨X, 1, none⟩ = some (.int .i64 8)
  x2 : w.cell? ⟨X, 2, none⟩ = some (.bool true)
  x3 : w.cell? ⟨X, 3, none⟩ = some (.bool false)
  x4 : w.cell? ⟨X, 4, none⟩ = some (.pointer none)
  x5 : w.cell? ⟨X, 5, none⟩ = some (.int .i64 0)
  x6 : w.cell? ⟨X, 6, none⟩ = some (.int .i64 0)
  x7 : w.cell? ⟨X, 7, none⟩ = some (.slice none 0 0)
  x8 : w.cell? ⟨X, 8, none⟩ = some (.pointer none)
  y0 : w.cell? ⟨Y, 0, none⟩ = some (.int .i64 2)
  y1 : w.cell? ⟨Y, 1, none⟩ = some (.int .i64 8)
  y2 : w.cell? ⟨Y, 2, none⟩ = some (.bool false)
  y3 : w.cell? ⟨Y, 3, none⟩ = some (.bool false)
  y4 : w.cell? ⟨Y, 4, none⟩ = some (.pointer el)
  y5 : w.cell? ⟨Y, 5, none⟩ = some (.int .i64 0)
  y6 : w.cell? ⟨Y, 6, none⟩ = some (.int .i64 0)
  y7 : w.cell? ⟨Y, 7, none⟩ = some (.slice none 0 0)
  y8 : w.cell? ⟨Y, 8, none⟩ = some (.pointer none)
theorem BgC.keep {w w' : World} {X Y : Nat} {el : Option Addr} (h : BgC w X Y el) (eX : w'.heap[X]? = w.heap[X]?) (eY : w'.heap[Y]? = w.heap[Y]?) : BgC w' X Y el := ⟨by rw [World.cell?_of_block eX]; exact h.x0, by rw [World.cell?_of_block eX]; exact h.x1, by rw [World.cell?_of_block eX]; exact h.x2, by rw [World.cell?_of_block eX]; exact h.x3, by rw [World.cell?_of_block eX]; exact h.x4, by rw [World.cell?_of_block eX]; exact h.x5, by rw [World.cell?_of_block eX]; exact h.x6, by rw [World.cell?_of_block eX]; exact h.x7, by rw [World.cell?_of_block eX]; exact h.x8, by rw [World.cell?_of_block eY]; exact h.y0, by rw [World.cell?_of_block eY]; exact h.y1, by rw [World.cell?_of_block eY]; exact h.y2, by rw [World.cell?_of_block eY]; exact h.y3, by rw [World.cell?_of_block eY]; exact h.y4, by rw [World.cell?_of_block eY]; exact h.y5, by rw [World.cell?_of_block eY]; exact h.y6, by rw [World.cell?_of_block eY]; exact h.y7, by rw [World.cell?_of_block eY]; exact h.y8⟩
theorem BgC.below {w w' : World} {X Y : Nat} {el : Option Addr} (h : BgC w X Y el) (hb : Below w.heap.size w w') : BgC w' X Y el := h.keep (hb.block _ (lt_of_cell h.x0)) (hb.block _ (lt_of_cell h.y0))
theorem BgC.turn {w w' : World} {X Y c : Nat} {el : Option Addr} (h : BgC w X Y el) (ht : Turn c w w') (hX : X ≠ c) (hY : Y ≠ c) : BgC w' X Y el := h.keep (ht.block _ (lt_of_cell h.x0) hX) (ht.block _ (lt_of_cell h.y0) hY)
/-- A pointer in block P. -/
structure PtC (w : World) (P : Nat) (o q : Int) : Prop where
  p0 : w.cell? ⟨P, 0, none⟩ = some (.int .i64 1)
  p1 : w.cell? ⟨P, 1, none⟩ = some (.int .i64 o)
  p2 : w.cell? ⟨P, 2, none⟩ = some (.int .i64 q)
theorem PtC.keep {w w' : World} {P : Nat} {o q : Int} (h : PtC w P o q) (e : w'.heap[P]? = w.heap[P]?) : PtC w' P o q := ⟨by rw [World.cell?_of_block e]; exact h.p0, by rw [World.cell?_of_block e]; exact h.p1, by rw [World.cell?_of_block e]; exact h.p2⟩
theorem PtC.below {w w' : World} {P : Nat} {o q : Int} (h : PtC w P o q) (hb : Below w.heap.size w w') : PtC w' P o q := h.keep (hb.block _ (lt_of_cell h.p0))
theorem PtC.turn {w w' : World} {P c : Nat} {o q : Int} (h : PtC w P o q) (ht : Turn c w w') (hP : P ≠ c) : PtC w' P o q := h.keep (ht.block _ (lt_of_cell h.p0) hP)

end Go.Proofs.Ytdkhanjfncbfnaa
