import Derived.Test.YtdkhanjfncbfnaaOsD
namespace Go.Proofs.Ytdkhanjfncbfnaa
open Go Go.RowKit
set_option linter.unusedVariables false
set_option linter.unusedSimpArgs false

/-- An int type as a value. -/
def tI (sz : Int) (sg sc : Bool) : Value := .agg #[.int .i64 1, .int .i64 sz, .bool sg, .bool sc, .pointer none, .int .i64 0, .int .i64 0, .slice none 0 0, .pointer none]
/-- A pointer's type as a value. -/
def tP (el : Option Addr) : Value := .agg #[.int .i64 2, .int .i64 8, .bool false, .bool false, .pointer el, .int .i64 0, .int .i64 0, .slice none 0 0, .pointer none]
def IntRes (r : Int) (w : World) (e : Ending) (w' : World) : Prop := e = .returned (.int .i64 r) ∧ Below w.heap.size w w'
def BoolRes (r : Bool) (w : World) (e : Ending) (w' : World) : Prop := e = .returned (.bool r) ∧ Below w.heap.size w w'
def Sz (sz : Nat) : Prop := sz = 1 ∨ sz = 2 ∨ sz = 4 ∨ sz = 8

theorem width_int (sz : Nat) (h : Sz sz) (sg sc : Bool) (w : World) : Calls Try.prog 62 #[tI sz sg sc] w (IntRes sz w) := by
  rcases h with rfl | rfl | rfl | rfl
  all_goals
    unfold tI
    go_enter Try.func62, Try.ntmps62
    go_wp2_with fail
    go_ret
    exact ⟨rfl, (Below.refl _ _).alloc (Nat.le_refl _) _⟩
theorem width_ptr (el : Option Addr) (w : World) : Calls Try.prog 62 #[tP el] w (IntRes 8 w) := by
  unfold tP
  go_enter Try.func62, Try.ntmps62
  go_wp2_with fail
  go_ret
  exact ⟨rfl, (Below.refl _ _).alloc (Nat.le_refl _) _⟩

theorem alive_of (mb : Nat) (k o f : Int) (v : Value) (x0 x1 : Option Addr) (m0 m1 m2 m3 : Nat) (hv : v = .agg #[.slice x0 m0 m1, .slice x1 m2 m3]) (w : World) (ok : Bool) (h : BehindIs w mb (ptrV k o f) v ok) :
    Calls Try.prog 12 #[.pointer (some ⟨mb, 0, none⟩), ptrV k o f] w (BoolRes (ok || k != 1) w) := by
  subst hv
  have h' := h
  unfold BehindIs ptrV at h'
  unfold ptrV
  have H := Lib.hid h'
  clear h h'
  by_cases hk : k = 1
  · subst hk
    cases ok
    all_goals
      go_enter Try.func12, Try.ntmps12
      go_wp2_with fail
      (with_reducible refine (H.out _ ((Below.refl _ _).alloc (Nat.le_refl _) _)).mono ?_)
      rintro e w1 ⟨rfl, hb1⟩
      have x0 : w1.cell? ⟨w.heap.size, 0, none⟩ = some (.int .i64 1) := by rw [hb1.cell (by simp)]; simp
      have HB1 : Hid (Below w.heap.size w w1) := Lib.hid (((Below.refl _ _).alloc (Nat.le_refl _) _).trans (hb1.mono (by simp)))
      have hs3 : w.heap.size < w1.heap.size := by have := hb1.size; simp at this; omega
      have hs5 : w.heap.size ≠ w1.heap.size := by omega
      clear hb1
      go_wp2_with fail
      go_ret
      exact ⟨rfl, HB1.out.alloc (by omega) _⟩
  · cases ok
    all_goals
      go_enter Try.func12, Try.ntmps12
      go_wp2_with fail
      (with_reducible refine (H.out _ ((Below.refl _ _).alloc (Nat.le_refl _) _)).mono ?_)
      rintro e w1 ⟨rfl, hb1⟩
      have x0 : w1.cell? ⟨w.heap.size, 0, none⟩ = some (.int .i64 k) := by rw [hb1.cell (by simp)]; simp
      have HB1 : Hid (Below w.heap.size w w1) := Lib.hid (((Below.refl _ _).alloc (Nat.le_refl _) _).trans (hb1.mono (by simp)))
      have hs3 : w.heap.size < w1.heap.size := by have := hb1.size; simp at this; omega
      have hs5 : w.heap.size ≠ w1.heap.size := by omega
      clear hb1
      go_wp2_with fail
      go_ret
      exact ⟨by first | rfl | simp [hk], HB1.out.alloc (by omega) _⟩

/-- Labels: n bools of block s from so on. -/
def Labs (w : World) (s so n : Nat) (L : Nat → Bool) : Prop := ∀ i, i < n → w.cell? ⟨s, so + i, none⟩ = some (.bool (L i))
theorem Labs.below {w w' : World} {s so n : Nat} {L : Nat → Bool} {lim : Nat} (h : Labs w s so n L) (hb : Below lim w w') (hl : s < lim) : Labs w' s so n L := fun i hi => by rw [hb.cell (by exact hl)]; exact h i hi

set_option maxRecDepth 100000 in
set_option maxHeartbeats 4000000 in
theorem index_any (s so n r : Nat) (L : Nat → Bool) (v : Bool) (hn : n ≤ 1000000000) (w : World) (h : Labs w s so n L) :
    Calls Try.prog 64 #[.slice (some ⟨s, so, none⟩) n r, .bool v] w fun e w' => w' = w ∧ ∃ j : Int, e = .returned (.int .i64 j) ∧ (0 ≤ j ↔ ∃ i, i < n ∧ L i = v) ∧ -1 ≤ j := by
  have H := Lib.hid h
  clear h
  go_enter Try.func64, Try.ntmps64
  go_wp2_with fail
  go_loopw [8] (fun s8 wr => ∃ k : Nat, s8 = .int .i64 k ∧ k ≤ n ∧ wr = w ∧ ∀ i, i < k → L i ≠ v) (fun s8 _ => n - (intOf s8).toNat)
  case atStart => exact ⟨0, rfl, by omega, rfl, fun i hi => by omega⟩
  case round =>
    obtain ⟨k, rfl, hk, rfl, hno⟩ := hrel
    have HNO := Lib.hid hno
    clear hno
    by_cases hlt : k < n
    · have hc := H.out k hlt
      have hkl : (k : Int) < n := by omega
      by_cases hv : L k = v
      · rw [hv] at hc
        go_wp2_with fail
        go_ret
        exact ⟨rfl, _, rfl, ⟨fun _ => ⟨k, hlt, hv⟩, fun _ => by omega⟩, by omega⟩
      · have hv2 : L k = !v := by cases h1 : L k <;> cases h2 : v <;> simp_all
        rw [hv2] at hc
        have HV := Lib.hid hv
        clear hv hv2
        cases v
        all_goals
          go_wp2_with fail
          go_roundw
          case rel => exact ⟨k + 1, by go_num, by omega, by first | rfl | trivial, fun i hi => by
            by_cases hik : i < k
            · exact HNO.out i hik
            · obtain rfl : i = k := by omega
              exact HV.out⟩
          case measure => simp [intOf]; omega
    · obtain rfl : k = n := by omega
      go_wp2_with fail
      go_ret
      exact ⟨rfl, _, rfl, ⟨fun h => by omega, fun ⟨i, hi, hv⟩ => absurd hv (HNO.out i hi)⟩, by omega⟩

theorem contains_any (s so n r : Nat) (L : Nat → Bool) (v : Bool) (hn : n ≤ 1000000000) (w : World) (h : Labs w s so n L) (b : Bool) (hb : b = true ↔ ∃ i, i < n ∧ L i = v) :
    Calls Try.prog 63 #[.slice (some ⟨s, so, none⟩) n r, .bool v] w fun e w' => w' = w ∧ e = .returned (.bool b) := by
  have H := Lib.hid (index_any s so n r L v hn w h)
  clear h
  go_enter Try.func63, Try.ntmps63
  go_wp2_with fail
  refine H.out.mono ?_
  rintro e w' ⟨rfl, j, rfl, hj, hj1⟩
  have hbj : b = decide (0 ≤ j) := by
    cases b
    · symm; simp only [decide_eq_false_iff_not, hj, ← hb]; simp
    · symm; simp only [decide_eq_true_eq, hj, ← hb]
  subst hbj
  clear hj hb
  go_wp2_with fail
  go_ret
  exact ⟨rfl, by first | rfl | simp⟩
end Go.Proofs.Ytdkhanjfncbfnaa
