import Derived.Test.YtdkhanjfncbfnaaOsCG
namespace Go.Proofs.Ytdkhanjfncbfnaa
open Go Go.RowKit
set_option linter.unusedVariables false
set_option linter.unusedSimpArgs false

section
variable {w : World} {mb pb : Nat} {es : Array MapEntry} {clk : Nat} {o : Int} {s c N : Nat} {L : Nat → Bool} {C : Nat → Cl}
theorem Ob.bytes (h : Ob w mb pb es clk o s c N L C) (q n : Nat) (hq : q + n ≤ N) (h0 : q < N) : BytesIs w mb (ptrV 1 o q) n (.agg #[.slice (some ⟨s, q, none⟩) n (N - q), .slice (some ⟨c, q * 5, none⟩) n (N - q)]) true := by
  have hbe := h.behind q (by omega)
  have hne : ¬ N = q := by omega
  rw [show offs 0 q 1 N = q from by unfold offs; rw [if_neg hne]; omega, show offs 0 q 5 N = q * 5 from by unfold offs; rw [if_neg hne]; omega] at hbe
  have := h.hN
  exact bytesIs_in (n := n) (by omega) (by omega) hbe
theorem Ob.bytes_far (h : Ob w mb pb es clk o s c N L C) (q n : Nat) (hq : q ≤ N) (hn : ¬ q + n ≤ N) (hn2 : n ≤ 1000000000) : BytesIs w mb (ptrV 1 o q) n noObj false := by
  have := h.hN
  exact bytesIs_far (n := n) (by omega) (by omega) hn2 (h.behind q hq)
theorem Ob.labs_at (h : Ob w mb pb es clk o s c N L C) (q n : Nat) (hq : q + n ≤ N) : Labs w s q n (fun i => L (q + i)) := fun i hi => by
  have := h.labs (q + i) (by omega)
  rw [Nat.zero_add] at this
  exact this
end
theorem copyC_at (C D : Nat → Cl) (q n i : Nat) (hi : i < n) : copyC C q n D (q + i) = D i := by
  unfold copyC
  rw [if_pos (by omega), show q + i - q = i from by omega]
theorem copy_law {w : World} {mb pb : Nat} {es : Array MapEntry} {clk : Nat} {s c s2 c2 : Nat} {C D : Nat → Cl} (o : Nat) (ho : o ≤ 1) (h0 : Ob w mb pb es clk 0 s c 80 (fun _ => false) C) (h1 : Ob w mb pb es clk 1 s2 c2 80 (fun _ => false) D) (hcc : c ≠ c2) (hsc : s ≠ c2) (hcs : c ≠ s2) :
    Calls Try.prog 29 #[.pointer (some ⟨mb, 0, none⟩), .agg #[.int .i64 1, .int .i64 (o : Int), .int .i64 40], .agg #[.int .i64 1, .int .i64 0, .int .i64 0], .int .i64 40] w fun e w' => e = .returned (.bool true) ∧ ∃ (cx so co : Nat) (CC CA : Nat → Cl), (cx = c ∨ cx = c2) ∧ Turn cx w w' ∧ Ob w' mb pb es clk (o : Int) so co 80 (fun _ => false) CC ∧ (∀ i, i < 40 → CC (40 + i) = C i) ∧ Ob w' mb pb es clk 0 s c 80 (fun _ => false) CA := by
  have b0 := h0.bytes 0 40 (by omega) (by omega)
  rcases (show o = 0 ∨ o = 1 by omega) with rfl | rfl
  · have b1 := h0.bytes 40 40 (by omega) (by omega)
    refine (copy_yes mb 1 0 40 1 0 0 40 (by omega) s 40 c 40 40 s 0 c 0 80 w b1 b0 (by decide) (fun _ => false) (fun _ => false) (h0.labs_at 40 40 (by omega)) (h0.labs_at 0 40 (by omega)) h0.sl h0.sl (fun _ _ => rfl) 80 C C (by omega) h0.cells h0.cl h0.fz (fun i hi => h0.cells i (by omega)) h0.cl).mono ?_
    rintro e w' ⟨rfl, ht, hc⟩
    exact ⟨rfl, c, s, c, _, _, Or.inl rfl, ht, h0.wrote ht hc, fun i hi => copyC_at _ _ _ _ _ hi, h0.wrote ht hc⟩
  · have b1 := h1.bytes 40 40 (by omega) (by omega)
    refine (copy_yes mb 1 1 40 1 0 0 40 (by omega) s2 40 c2 40 40 s 0 c 0 80 w b1 b0 (by decide) (fun _ => false) (fun _ => false) (h1.labs_at 40 40 (by omega)) (h0.labs_at 0 40 (by omega)) h1.sl h0.sl (fun _ _ => rfl) 80 D C (by omega) h1.cells h1.cl h1.fz (fun i hi => h0.cells i (by omega)) h0.cl).mono ?_
    rintro e w' ⟨rfl, ht, hc⟩
    exact ⟨rfl, c2, s2, c2, _, _, Or.inr rfl, ht, h1.wrote ht hc, fun i hi => copyC_at _ _ _ _ _ hi, h0.turn ht h1.cm h1.cp hsc.symm hcc.symm⟩
theorem copy_41 {w : World} {mb pb : Nat} {es : Array MapEntry} {clk : Nat} {o : Int} {s c so co : Nat} {C D : Nat → Cl} (h1 : Ob w mb pb es clk o so co 80 (fun _ => false) D) (h0 : Ob w mb pb es clk 0 s c 80 (fun _ => false) C) :
    Calls Try.prog 29 #[.pointer (some ⟨mb, 0, none⟩), .agg #[.int .i64 1, .int .i64 o, .int .i64 40], .agg #[.int .i64 1, .int .i64 0, .int .i64 0], .int .i64 41] w fun e w' => e = .returned (.bool false) ∧ Below w.heap.size w w' :=
  copy_one mb 1 o 40 1 0 0 41 (by omega) _ _ _ _ _ _ true w (h1.bytes_far 40 41 (by omega) (by omega) (by omega)) (h0.bytes 0 41 (by omega) (by omega))
theorem copy_odd {w : World} {mb pb : Nat} {es : Array MapEntry} {clk : Nat} {o : Int} {s c so co : Nat} {C D : Nat → Cl} (h1 : Ob w mb pb es clk o so co 80 (fun _ => false) D) (h0 : Ob w mb pb es clk 0 s c 80 (fun _ => false) C) :
    Calls Try.prog 29 #[.pointer (some ⟨mb, 0, none⟩), .agg #[.int .i64 1, .int .i64 o, .int .i64 40], .agg #[.int .i64 1, .int .i64 0, .int .i64 1], .int .i64 8] w fun e w' => e = .returned (.bool false) ∧ Below w.heap.size w w' :=
  copy_off mb 1 o 40 1 0 1 8 (by omega) so 40 co 40 40 s 1 c 5 79 w (h1.bytes 40 8 (by omega) (by omega)) (h0.bytes 1 8 (by omega) (by omega)) (by decide)
section
variable {w : World} {mb pb : Nat} {es : Array MapEntry} {clk : Nat} {o : Int} {s c : Nat} {C : Nat → Cl}
theorem Ob.lnone (h : Ob w mb pb es clk o s c 80 (fun _ => false) C) (q : Nat) (hq : q + 8 ≤ 80) (hc : (C q).h ≠ 1) :
    Calls Try.prog 23 #[.pointer (some ⟨mb, 0, none⟩), .agg #[.int .i64 1, .int .i64 o, .int .i64 q], .agg #[.int .i64 1, .int .i64 8, .bool true, .bool false, .pointer none, .int .i64 0, .int .i64 0, .slice none 0 0, .pointer none]] w fun e w' => e = .returned (.tuple #[.agg #[.int .i64 0, .int .i64 0, .int .i64 0, .int .i64 0, .bool false], .bool false]) ∧ Below w.heap.size w w' :=
  h.load_none q 8 (by unfold Sz; omega) hq true false (fun _ _ => rfl) hc
theorem Ob.lnum (h : Ob w mb pb es clk o s c 80 (fun _ => false) C) (q : Nat) (hq : q + 8 ≤ 80) (x : Int) (h0 : -9223372036854775808 ≤ x) (h1 : x ≤ 9223372036854775807) (hc : ∀ j, j < 8 → C (q + j) = numC x j) :
    Calls Try.prog 23 #[.pointer (some ⟨mb, 0, none⟩), .agg #[.int .i64 1, .int .i64 o, .int .i64 q], .agg #[.int .i64 1, .int .i64 8, .bool true, .bool false, .pointer none, .int .i64 0, .int .i64 0, .slice none 0 0, .pointer none]] w fun e w' => e = .returned (.tuple #[.agg #[.int .i64 x, .int .i64 0, .int .i64 0, .int .i64 0, .bool false], .bool true]) ∧ Below w.heap.size w w' := by
  have hl := h.load q 8 (by unfold Sz; omega) hq true false (fun _ _ => rfl) (fun i hi => by rw [hc i hi]; exact ⟨rfl, byteOf_range x i⟩)
  have e : valOf true 8 (sumB (fun i => (C (q + i)).b) 8) = x := by
    rw [sumB_congr (B' := byteOf x) 8 (fun i hi => by rw [hc i hi]; rfl)]
    exact val_back x h0 h1
  rw [e] at hl
  exact hl
theorem Ob.lpno (h : Ob w mb pb es clk o s c 80 (fun _ => false) C) (q : Nat) (hq : q + 8 ≤ 80) (h8 : q % 8 = 0) (el : Option Addr) (hc : (C q).h ≠ 2) :
    Calls Try.prog 23 #[.pointer (some ⟨mb, 0, none⟩), .agg #[.int .i64 1, .int .i64 o, .int .i64 q], .agg #[.int .i64 2, .int .i64 8, .bool false, .bool false, .pointer el, .int .i64 0, .int .i64 0, .slice none 0 0, .pointer none]] w fun e w' => e = .returned (.tuple #[.agg #[.int .i64 0, .int .i64 0, .int .i64 0, .int .i64 0, .bool false], .bool false]) ∧ Below w.heap.size w w' :=
  h.loadp q hq h8 el (fun _ _ => rfl) false ⟨fun e => absurd e (by simp), fun e => by
    have := e 0 (by omega)
    rw [Nat.add_zero] at this
    rw [this] at hc
    exact absurd rfl hc⟩
theorem Ob.lptr (h : Ob w mb pb es clk o s c 80 (fun _ => false) C) (q : Nat) (hq : q + 8 ≤ 80) (h8 : q % 8 = 0) (el : Option Addr) (pk po pf : Int) (hc : ∀ j, j < 8 → C (q + j) = ptrC pk po pf j) :
    Calls Try.prog 23 #[.pointer (some ⟨mb, 0, none⟩), .agg #[.int .i64 1, .int .i64 o, .int .i64 q], .agg #[.int .i64 2, .int .i64 8, .bool false, .bool false, .pointer el, .int .i64 0, .int .i64 0, .slice none 0 0, .pointer none]] w fun e w' => e = .returned (.tuple #[.agg #[.int .i64 0, .int .i64 pk, .int .i64 po, .int .i64 pf, .bool true], .bool true]) ∧ Below w.heap.size w w' := by
  have e0 := hc 0 (by omega)
  rw [Nat.add_zero] at e0
  have hl := h.loadp q hq h8 el (fun _ _ => rfl) true ⟨fun _ i hi => by rw [hc i hi, e0]; rfl, fun _ => rfl⟩
  rw [e0] at hl
  exact hl
end
end Go.Proofs.Ytdkhanjfncbfnaa
