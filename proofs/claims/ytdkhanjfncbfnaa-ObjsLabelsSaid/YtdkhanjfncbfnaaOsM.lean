import Derived.Test.YtdkhanjfncbfnaaOsL
namespace Go.Proofs.Ytdkhanjfncbfnaa
open Go Go.RowKit
set_option linter.unusedVariables false
set_option linter.unusedSimpArgs false

/-- Object o of a memory: its labels and what its cells hold. -/
structure Ob (w : World) (mb pb : Nat) (es : Array MapEntry) (clk : Nat) (o : Int) (s c N : Nat) (L : Nat → Bool) (C : Nat → Cl) : Prop where
  c1 : w.cell? ⟨mb, 1, none⟩ = some (.map (some pb))
  hb : w.heap[pb]? = some (.map es clk)
  hf : ∃ i, Instr.findNow (.int .i64) (.int .i64 o) es.toList 0 = some (some (i, objV s 0 c 0 N))
  labs : Labs w s 0 N L
  cells : Cells5 w c 0 N C
  fz : ∀ j, w.frozen? ⟨c, j, none⟩ = false
  sl : s < w.heap.size
  cl : c < w.heap.size
  sc : s ≠ c
  cm : c ≠ mb
  cp : c ≠ pb
  hN : N ≤ 1000000
section
variable {w w' : World} {mb pb : Nat} {es : Array MapEntry} {clk : Nat} {o : Int} {s c N : Nat} {L : Nat → Bool} {C : Nat → Cl}
theorem Ob.below (h : Ob w mb pb es clk o s c N L C) (hb : Below w.heap.size w w') : Ob w' mb pb es clk o s c N L C := by
  have hm := World.block_lt_of_cell? w _ h.c1
  have hp : pb < w.heap.size := (Array.getElem?_eq_some_iff.1 h.hb).1
  exact ⟨by rw [hb.cell (by exact hm)]; exact h.c1, by rw [hb.block pb hp]; exact h.hb, h.hf, h.labs.below hb h.sl, h.cells.below hb h.cl, fun j => by rw [hb.frozen (by exact h.cl)]; exact h.fz j, Nat.lt_of_lt_of_le h.sl hb.size, Nat.lt_of_lt_of_le h.cl hb.size, h.sc, h.cm, h.cp, h.hN⟩
/-- Another object, where block c' has turned. -/
theorem Ob.turn {c' : Nat} (h : Ob w mb pb es clk o s c N L C) (ht : Turn c' w w') (h1 : c' ≠ mb) (h2 : c' ≠ pb) (h3 : c' ≠ s) (h4 : c' ≠ c) : Ob w' mb pb es clk o s c N L C := by
  have hm := World.block_lt_of_cell? w _ h.c1
  simp at hm
  have hp : pb < w.heap.size := (Array.getElem?_eq_some_iff.1 h.hb).1
  have kc : w'.heap[c]? = w.heap[c]? := ht.block c h.cl h4.symm
  exact ⟨by rw [World.cell?_of_block (ht.block mb hm h1.symm)]; exact h.c1, by rw [ht.block pb hp h2.symm]; exact h.hb, h.hf, fun i hi => by rw [World.cell?_of_block (ht.block s h.sl h3.symm)]; exact h.labs i hi,
    fun i hi => by
      obtain ⟨e0, e1, e2, e3, e4⟩ := h.cells i hi
      exact ⟨by rw [World.cell?_of_block kc]; exact e0, by rw [World.cell?_of_block kc]; exact e1, by rw [World.cell?_of_block kc]; exact e2, by rw [World.cell?_of_block kc]; exact e3, by rw [World.cell?_of_block kc]; exact e4⟩,
    fun j => by rw [World.frozen?_of_block kc]; exact h.fz j, Nat.lt_of_lt_of_le h.sl ht.size, Nat.lt_of_lt_of_le h.cl ht.size, h.sc, h.cm, h.cp, h.hN⟩
/-- The object itself, its cells written. -/
theorem Ob.wrote {C' : Nat → Cl} (h : Ob w mb pb es clk o s c N L C) (ht : Turn c w w') (hC : Cells5 w' c 0 N C') : Ob w' mb pb es clk o s c N L C' := by
  have hm := World.block_lt_of_cell? w _ h.c1
  simp at hm
  have hp : pb < w.heap.size := (Array.getElem?_eq_some_iff.1 h.hb).1
  exact ⟨by rw [World.cell?_of_block (ht.block mb hm h.cm.symm)]; exact h.c1, by rw [ht.block pb hp h.cp.symm]; exact h.hb, h.hf, fun i hi => by rw [World.cell?_of_block (ht.block s h.sl h.sc)]; exact h.labs i hi, hC, fun j => ht.fz j (h.fz j), Nat.lt_of_lt_of_le h.sl ht.size, Nat.lt_of_lt_of_le h.cl ht.size, h.sc, h.cm, h.cp, h.hN⟩
theorem Ob.behind (h : Ob w mb pb es clk o s c N L C) (q : Nat) (hq : q ≤ N) : BehindIs w mb (ptrV 1 o q) (.agg #[.slice (some ⟨s, offs 0 q 1 N, none⟩) (N - q) (N - q), .slice (some ⟨c, offs 0 q 5 N, none⟩) (N - q) (N - q)]) true := fun w' hb => by
  have h' := h.below hb
  obtain ⟨i, hf⟩ := h'.hf
  have := h'.hN
  exact behind_in mb pb es clk o q i s 0 c 0 N hf hq (by omega) w' h'.c1 h'.hb
theorem Ob.behind_neg (h : Ob w mb pb es clk o s c N L C) (f : Int) (hq : f < 0) : BehindIs w mb (ptrV 1 o f) noObj false := fun w' hb => by
  have h' := h.below hb
  obtain ⟨i, hf⟩ := h'.hf
  have := h'.hN
  exact Go.Proofs.Ytdkhanjfncbfnaa.behind_neg mb pb es clk o f i s 0 c 0 N hf (by omega) hq w' h'.c1 h'.hb
theorem Ob.behind_far (h : Ob w mb pb es clk o s c N L C) (f : Int) (hq : (N : Int) < f) : BehindIs w mb (ptrV 1 o f) noObj false := fun w' hb => by
  have h' := h.below hb
  obtain ⟨i, hf⟩ := h'.hf
  have := h'.hN
  exact Go.Proofs.Ytdkhanjfncbfnaa.behind_far mb pb es clk o f i s 0 c 0 N hf (by omega) hq w' h'.c1 h'.hb
theorem Ob.acc (h : Ob w mb pb es clk o s c N L C) (q sz : Nat) (hsz : Sz sz) (hq : q + sz ≤ N) (sg sc : Bool) (hl : ∀ i, i < sz → L (q + i) = sc) :
    AccIs w mb (ptrV 1 o q) (tI sz sg sc) (.agg #[.slice (some ⟨s, q, none⟩) sz (N - q), .slice (some ⟨c, q * 5, none⟩) sz (N - q)]) true := fun w' hb => by
  have h' := h.below hb
  have h1 : 1 ≤ sz := by rcases hsz with h | h | h | h <;> omega
  have hne : ¬ N = q := by omega
  have hbe := h'.behind q (by omega)
  rw [show offs 0 q 1 N = q from by unfold offs; rw [if_neg hne]; omega, show offs 0 q 5 N = q * 5 from by unfold offs; rw [if_neg hne]; omega] at hbe
  have := h'.hN
  have hby := bytesIs_in (n := sz) (by omega) (by omega) hbe
  refine acc_int_yes mb 1 o q sz hsz sg sc s q c (q * 5) (N - q) w' hby (fun i hi => ?_) h'.sl
  have := h'.labs (q + i) (by omega)
  rw [Nat.zero_add, hl i hi] at this
  exact this
/-- Outside the object. -/
theorem Ob.acc_far (h : Ob w mb pb es clk o s c N L C) (q sz : Nat) (hsz : Sz sz) (hqN : q ≤ N) (hq : ¬ q + sz ≤ N) (sg sc : Bool) : AccIs w mb (ptrV 1 o q) (tI sz sg sc) noObj false := fun w' hb => by
  have h' := h.below hb
  have := h'.hN
  exact acc_int_no mb 1 o q sz hsz sg sc w' (bytesIs_far (n := sz) (by omega) (by omega) (by rcases hsz with h | h | h | h <;> omega) (h'.behind q hqN))
/-- Other labels. -/
theorem Ob.acc_lab (h : Ob w mb pb es clk o s c N L C) (q sz : Nat) (hsz : Sz sz) (hq : q + sz ≤ N) (sg sc : Bool) (hl : ∃ i, i < sz ∧ L (q + i) ≠ sc) : AccIs w mb (ptrV 1 o q) (tI sz sg sc) noObj false := fun w' hb => by
  have h' := h.below hb
  have h1 : 1 ≤ sz := by rcases hsz with h | h | h | h <;> omega
  have hne : ¬ N = q := by omega
  have hbe := h'.behind q (by omega)
  rw [show offs 0 q 1 N = q from by unfold offs; rw [if_neg hne]; omega, show offs 0 q 5 N = q * 5 from by unfold offs; rw [if_neg hne]; omega] at hbe
  have := h'.hN
  have hby := bytesIs_in (n := sz) (by omega) (by omega) hbe
  refine acc_int_lab mb 1 o q sz hsz sg sc s q c (q * 5) (N - q) (fun i => L (q + i)) hl w' hby (fun i hi => ?_) h'.sl
  have := h'.labs (q + i) (by omega)
  rw [Nat.zero_add] at this
  exact this
theorem Cells5.shift (h : Cells5 w c 0 N C) (q n : Nat) (hq : q + n ≤ N) : Cells5 w c (q * 5) n (fun i => C (q + i)) := fun i hi => by
  have := h (q + i) (by omega)
  rw [show 0 + (q + i) * 5 = q * 5 + i * 5 from by omega] at this
  exact this
/-- A number is loaded. -/
theorem Ob.load (h : Ob w mb pb es clk o s c N L C) (q sz : Nat) (hsz : Sz sz) (hq : q + sz ≤ N) (sg sc : Bool) (hl : ∀ i, i < sz → L (q + i) = sc) (hh : ∀ i, i < sz → (C (q + i)).h = 1 ∧ 0 ≤ (C (q + i)).b ∧ (C (q + i)).b ≤ 255) :
    Calls Try.prog 23 #[.pointer (some ⟨mb, 0, none⟩), ptrV 1 o q, tI sz sg sc] w fun e w' => e = .returned (.tuple #[numV (valOf sg sz (sumB (fun i => (C (q + i)).b) sz)), .bool true]) ∧ Below w.heap.size w w' := by
  have := h.hN
  exact load_int mb 1 o q sz sg sc s q c (q * 5) sz (N - q) _ true w (h.acc q sz hsz hq sg sc hl) (fun w' hb => number_yes s q c (q * 5) sz (N - q) hsz (by omega) sg (fun i => C (q + i)) hh w' (((h.below hb).cells).shift q sz hq) (h.below hb).cl)
/-- No number is there. -/
theorem Ob.load_none (h : Ob w mb pb es clk o s c N L C) (q sz : Nat) (hsz : Sz sz) (hq : q + sz ≤ N) (sg sc : Bool) (hl : ∀ i, i < sz → L (q + i) = sc) (hh : (C q).h ≠ 1) :
    Calls Try.prog 23 #[.pointer (some ⟨mb, 0, none⟩), ptrV 1 o q, tI sz sg sc] w fun e w' => e = .returned (.tuple #[numV 0, .bool false]) ∧ Below w.heap.size w w' := by
  have := h.hN
  have h1 : 1 ≤ sz := by rcases hsz with h | h | h | h <;> omega
  exact load_int mb 1 o q sz sg sc s q c (q * 5) sz (N - q) _ false w (h.acc q sz hsz hq sg sc hl) (fun w' hb => number_no s q c (q * 5) sz (N - q) (by omega) (by omega) sg (fun i => C (q + i)) hh w' (((h.below hb).cells).shift q sz hq) (h.below hb).cl)
/-- A number is stored. -/
theorem Ob.store (h : Ob w mb pb es clk o s c N L C) (q sz : Nat) (hsz : Sz sz) (hq : q + sz ≤ N) (sg sc : Bool) (hl : ∀ i, i < sz → L (q + i) = sc) (x pk po pf : Int) (isp : Bool) :
    Calls Try.prog 22 #[.pointer (some ⟨mb, 0, none⟩), ptrV 1 o q, tI sz sg sc, .agg #[.int .i64 x, .int .i64 pk, .int .i64 po, .int .i64 pf, .bool isp]] w fun e w' => e = .returned (.bool true) ∧ Turn c w w' ∧ Ob w' mb pb es clk o s c N L (putC C q sz x) := by
  have := h.hN
  refine (store_int mb 1 o q sz (by rcases hsz with h | h | h | h <;> omega) sg sc x pk po pf isp s q c q (N - q) N C hq (by omega) w (h.acc q sz hsz hq sg sc hl) h.cells h.cl h.fz).mono ?_
  rintro e w' ⟨rfl, ht, hC⟩
  exact ⟨rfl, ht, h.wrote ht hC⟩
end

theorem sumB_congr {B B' : Nat → Int} : ∀ k, (∀ i, i < k → B i = B' i) → sumB B k = sumB B' k
  | 0, _ => rfl
  | k + 1, h => by rw [sumB, sumB, sumB_congr k (fun i hi => h i (by omega)), h k (by omega)]
theorem emod_two (x a b : Int) (ha : 0 < a) : x % (a * b) = x % a + x / a % b * a := by
  rw [Int.emod_def x (a * b), Int.emod_def x a, Int.emod_def (x / a) b, Int.ediv_ediv_of_nonneg (by omega), Int.sub_mul]
  rw [show b * (x / (a * b)) * a = a * b * (x / (a * b)) from by rw [Int.mul_comm b, Int.mul_assoc, Int.mul_comm b a, Int.mul_comm], Int.mul_comm (x / a) a]
  omega
theorem sumB_byte (x : Int) : ∀ k, sumB (byteOf x) k = x % 256 ^ k
  | 0 => by simp [sumB]
  | k + 1 => by
    rw [sumB, sumB_byte x k]
    have hp : (256 : Int) ^ k = 2 ^ (8 * k) := by rw [Int.pow_mul]; rfl
    unfold byteOf
    rw [← hp, Int.pow_succ, emod_two x (256 ^ k) 256 (Int.pow_pos (by omega))]
theorem byteOf_range (x : Int) (i : Nat) : 0 ≤ byteOf x i ∧ byteOf x i ≤ 255 := by unfold byteOf; omega
theorem putC_in (C : Nat → Cl) (q n i : Nat) (x : Int) (hi : i < n) : putC C q n x (q + i) = numC x i := by
  unfold putC
  rw [if_pos (by omega), show q + i - q = i from by omega]
theorem val_back (x : Int) (h0 : -9223372036854775808 ≤ x) (h1 : x ≤ 9223372036854775807) : valOf true 8 (sumB (byteOf x) 8) = x := by
  rw [sumB_byte]
  unfold valOf
  simp
  split <;> omega
end Go.Proofs.Ytdkhanjfncbfnaa
