import Derived.Test.YtoajcggiccfaiaaDoorCtK
import Derived.Test.YtoajcggiccfaiaaDoorCtG
namespace Go.Proofs.YtoajcggiccfaiaaDoor
open Go Go.RowKit
set_option linter.unusedVariables false
set_option linter.unusedSimpArgs false

/-- One struct's four cells. -/
structure R4 (w : World) (b o : Nat) (nm : ByteArray) (fa : Option Addr) (fn fc : Nat) (sz al : Int) : Prop where
  c0 : w.cell? ⟨b, o, none⟩ = some (.string nm)
  c1 : w.cell? ⟨b, o + 1, none⟩ = some (.slice fa fn fc)
  c2 : w.cell? ⟨b, o + 2, none⟩ = some (.int .i64 sz)
  c3 : w.cell? ⟨b, o + 3, none⟩ = some (.int .i64 al)
theorem R4.below {w w' : World} {b o : Nat} {nm : ByteArray} {fa : Option Addr} {fn fc : Nat} {sz al : Int} {lim : Nat} (h : R4 w b o nm fa fn fc sz al) (hb : Below lim w w') (hl : b < lim) : R4 w' b o nm fa fn fc sz al := by
  obtain ⟨h0, h1, h2, h3⟩ := h
  constructor <;> (rw [hb.cell (by exact hl)]; assumption)

/-- A table of n structs (its fields' rows aside). -/
structure TabN (w : World) (tb rb n rc : Nat) (a : Option Addr) (NM : Nat → ByteArray) (FA : Nat → Option Addr) (FN FC : Nat → Nat) (SZ AL : Nat → Int) : Prop where
  t : w.cell? ⟨tb, 0, none⟩ = some (.slice a n rc)
  a : 0 < n → a = some ⟨rb, 0, none⟩
  l : 0 < n → rb < w.heap.size
  r : ∀ k, k < n → R4 w rb (k * 4) (NM k) (FA k) (FN k) (FC k) (SZ k) (AL k)
theorem TabN.below {w w' : World} {tb rb n rc : Nat} {a : Option Addr} {NM : Nat → ByteArray} {FA : Nat → Option Addr} {FN FC : Nat → Nat} {SZ AL : Nat → Int} (h : TabN w tb rb n rc a NM FA FN FC SZ AL) (ht : tb < w.heap.size) (hb : Below w.heap.size w w') : TabN w' tb rb n rc a NM FA FN FC SZ AL := by
  obtain ⟨h0, h1, h2, h3⟩ := h
  exact ⟨by rw [hb.cell (by exact ht)]; exact h0, h1, fun hn => Nat.lt_of_lt_of_le (h2 hn) hb.size, fun k hk => (h3 k hk).below hb (h2 (by omega))⟩

set_option maxHeartbeats 2000000 in
theorem record_in (tb rb n rc : Nat) (hn : n ≤ 1000000) (a : Option Addr) (NM : Nat → ByteArray) (FA : Nat → Option Addr) (FN FC : Nat → Nat) (SZ AL : Nat → Int) (k : Nat) (hk : k < n) (w : World) (h : TabN w tb rb n rc a NM FA FN FC SZ AL) :
    Calls Tryd.prog 27 #[.pointer (some ⟨tb, 0, none⟩), .int .i64 k] w (TupRes (.tuple #[.agg #[.string (NM k), .slice (FA k) (FN k) (FC k), .int .i64 (SZ k), .int .i64 (AL k)], .bool true]) w) := by
  obtain ⟨h0, h1, h2, h3⟩ := h
  obtain ⟨c0, c1, c2, c3⟩ := h3 k hk
  have ha := h1 (by omega)
  subst ha
  have k0 := World.block_lt_of_cell? w _ h0
  have k1 := World.block_lt_of_cell? w _ c0
  simp at k0 k1
  clear h1 h2 h3
  go_enter Tryd.func27, Tryd.ntmps27
  go_wp2_with fail
  have hbw := Below.refl w.heap.size w
  refine bodyPost_ret (v := .tuple #[.agg #[.string (NM k), .slice (FA k) (FN k) (FC k), .int .i64 (SZ k), .int .i64 (AL k)], .bool true]) ?_ rfl ⟨rfl, ?_⟩
  · simp [results, Tryd.results27, go_sem]
  · ((repeat (first | (with_reducible exact hbw) | (with_reducible apply Below.setCell) | (with_reducible apply Below.alloc))) <;> first | omega | (simp <;> omega))

set_option maxHeartbeats 2000000 in
theorem record_out (tb rb n rc : Nat) (hn : n ≤ 1000000) (a : Option Addr) (NM : Nat → ByteArray) (FA : Nat → Option Addr) (FN FC : Nat → Nat) (SZ AL : Nat → Int) (k : Int) (hk : k < 0 ∨ (n : Int) ≤ k) (w : World) (h : TabN w tb rb n rc a NM FA FN FC SZ AL) :
    Calls Tryd.prog 27 #[.pointer (some ⟨tb, 0, none⟩), .int .i64 k] w (TupRes (.tuple #[.agg #[.string ⟨#[]⟩, .slice none 0 0, .int .i64 0, .int .i64 0], .bool false]) w) := by
  obtain ⟨h0, h1, h2, h3⟩ := h
  have k0 := World.block_lt_of_cell? w _ h0
  simp at k0
  clear h1 h2 h3
  rcases hk with hk | hk
  all_goals
    go_enter Tryd.func27, Tryd.ntmps27
    go_wp2_with fail
    all_goals
      have hbw := Below.refl w.heap.size w
      refine bodyPost_ret (v := .tuple #[.agg #[.string ⟨#[]⟩, .slice none 0 0, .int .i64 0, .int .i64 0], .bool false]) ?_ rfl ⟨rfl, ?_⟩
      · simp [results, Tryd.results27, go_sem]
      · ((repeat (first | (with_reducible exact hbw) | (with_reducible apply Below.setCell) | (with_reducible apply Below.alloc))) <;> first | omega | (simp <;> omega))

/-- n elements of such a size. -/
def timesM (n size : Int) : Int := if 0 < n ∧ 1099511627776 / n < size then 1099511627776 else n * size
theorem timesM_range (n size : Int) (h0 : 0 ≤ n) (h1 : 0 ≤ size) : 0 ≤ timesM n size ∧ timesM n size ≤ 1099511627776 := by
  unfold timesM
  split
  · omega
  · rename_i h
    refine ⟨Int.mul_nonneg h0 h1, ?_⟩
    by_cases hz : n = 0
    · subst hz; simp
    · have hs : size ≤ 1099511627776 / n := by omega
      have h2 := Int.mul_le_mul_of_nonneg_left hs h0
      have h3 := Int.mul_ediv_self_le (x := 1099511627776) (k := n) hz
      omega

set_option maxHeartbeats 1000000 in
theorem times_any (n size : Int) (h0 : 0 ≤ n) (h1 : 0 ≤ size) (h2 : size ≤ 1099511627776) (h3 : n ≤ 1099511627776) (w : World) :
    Calls Tryd.prog 25 #[.int .i64 n, .int .i64 size] w fun e w' => e = .returned (.int .i64 (timesM n size)) ∧ w = w' := by
  obtain ⟨t0, t1⟩ := timesM_range n size h0 h1
  by_cases hz : n = 0
  · subst hz
    go_enter Tryd.func25, Tryd.ntmps25
    go_wp2
    all_goals
      go_ret
      exact ⟨by simp_all [timesM], rfl⟩
  · have hp : 0 < n := by omega
    have hq : ¬ n = 0 := hz
    by_cases hb : 1099511627776 / n < size
    · have HT := Lib.hid (show timesM n size = 1099511627776 by unfold timesM; rw [if_pos ⟨hp, hb⟩])
      go_enter Tryd.func25, Tryd.ntmps25
      go_wp2
      all_goals
        go_ret
        exact ⟨by first | (rw [HT.out]; done) | (rw [HT.out]; rfl), rfl⟩
    · have HT := Lib.hid (show timesM n size = n * size by unfold timesM; rw [if_neg (by omega)])
      have t2 : n * size ≤ 1099511627776 := by rw [← HT.out]; exact t1
      have t3 : 0 ≤ n * size := by rw [← HT.out]; exact t0
      go_enter Tryd.func25, Tryd.ntmps25
      go_wp2
      all_goals
        go_ret
        exact ⟨by first | (rw [HT.out]; done) | (rw [HT.out]; rfl), rfl⟩
end Go.Proofs.YtoajcggiccfaiaaDoor
