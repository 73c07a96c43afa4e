import Derived.Test.YtoajcggiccfaiaaDoorCtBE
import Derived.Test.YtoajcggiccfaiaaDoorCtL
namespace Go.Proofs.YtoajcggiccfaiaaDoor
open Go Go.RowKit
set_option linter.unusedVariables false
set_option linter.unusedSimpArgs false

def fldTL (nm : ByteArray) (t : Ty) (el : Option Addr) (a : Int) : List Value := [.string nm, .int .i64 t.kind, .int .i64 t.size, .bool t.sg, .bool t.sc, .pointer el, .int .i64 t.len, .int .i64 t.num, .slice none 0 0, .pointer none, .int .i64 a]
/-- The cells of the first n fields. -/
def cellsT (NM : Nat → ByteArray) (TY : Nat → Ty) (EL : Nat → Option Addr) (AT : Nat → Int) : Nat → List Value
  | 0 => []
  | k + 1 => cellsT NM TY EL AT k ++ fldTL (NM k) (TY k) (EL k) (AT k)
theorem cellsT_len (NM : Nat → ByteArray) (TY : Nat → Ty) (EL : Nat → Option Addr) (AT : Nat → Int) (k : Nat) : (cellsT NM TY EL AT k).length = k * 11 := by
  induction k with
  | zero => rfl
  | succ k ih => rw [cellsT, List.length_append, ih]; simp [fldTL]; omega
theorem cellsT_at (NM : Nat → ByteArray) (TY : Nat → Ty) (EL : Nat → Option Addr) (AT : Nat → Int) (n : Nat) : ∀ k j, k < n → j < 11 → (cellsT NM TY EL AT n)[k * 11 + j]? = (fldTL (NM k) (TY k) (EL k) (AT k))[j]? := by
  induction n with
  | zero => intro k j h; omega
  | succ n ih =>
    intro k j hk hj
    rw [cellsT]
    by_cases h : k < n
    · rw [List.getElem?_append_left (by rw [cellsT_len]; omega)]; exact ih k j h hj
    · obtain rfl : k = n := by omega
      rw [List.getElem?_append_right (by rw [cellsT_len]; omega), cellsT_len]
      congr 1; omega
/-- What is appended hangs on the pointers of the fields so far alone. -/
theorem cellsT_congr {NM : Nat → ByteArray} {TY : Nat → Ty} {EL EL' : Nat → Option Addr} {AT : Nat → Int} (n : Nat) (h : ∀ k, k < n → EL k = EL' k) : cellsT NM TY EL AT n = cellsT NM TY EL' AT n := by
  induction n with
  | zero => rfl
  | succ n ih => rw [cellsT, cellsT, ih (fun k hk => h k (by omega)), h n (by omega)]

theorem grow_of_owns {w : World} {base g cap n : Nat} {NM : Nat → ByteArray} {TY : Nat → Ty} {EL : Nat → Option Addr} {AT : Nat → Int} (h : w.ownsRow base 45 11 (.slice (some ⟨g, 0, none⟩) n cap) n (cellsT NM TY EL AT n)) : GRow w g n NM TY EL AT := by
  intro k hk
  have hj : ∀ j, j < 11 → w.cell? ⟨g, k * 11 + j, none⟩ = (fldTL (NM k) (TY k) (EL k) (AT k))[j]? := fun j hj => by
    rw [h.cellAt (k * 11 + j) (by omega), cellsT_at _ _ _ _ _ _ _ hk hj]
  exact ⟨by simpa [fldTL] using hj 0 (by omega), by simpa [fldTL] using hj 1 (by omega), by simpa [fldTL] using hj 2 (by omega), by simpa [fldTL] using hj 3 (by omega), by simpa [fldTL] using hj 4 (by omega), by simpa [fldTL] using hj 5 (by omega), by simpa [fldTL] using hj 6 (by omega), by simpa [fldTL] using hj 7 (by omega), by simpa [fldTL] using hj 8 (by omega), by simpa [fldTL] using hj 9 (by omega), by simpa [fldTL] using hj 10 (by omega)⟩

theorem fieldOfT_row (v : Value) (base k : Nat) (hk : k ≤ 1000000) (NM : Nat → ByteArray) (TY : Nat → Ty) (EL : Nat → Option Addr) (AT : Nat → Int) (nm : ByteArray) (w : World) (h : w.ownsRow base 45 11 v k (cellsT NM TY EL AT k))
    (hne : ∀ i, i < k → ((NM i).toList == nm.toList) = false) :
    Calls Tryd.prog 33 #[v, .string nm] w (TupRes (.tuple #[fld0, .bool false]) w) := by
  rcases Nat.eq_zero_or_pos k with h0 | h0
  · subst h0
    rcases h.2 with ⟨hv, _⟩ | ⟨g, cap, cur, hv, hg, hh, h3⟩
    · rw [hv]; exact fieldOf_nil nm w
    · rw [hv]
      exact fieldOfT_none g cap 0 (by omega) NM TY EL AT nm w (by
        rcases Nat.lt_or_ge g w.heap.size with h | h
        · exact h
        · rw [Array.getElem?_eq_none h] at hh; cases hh) (fun i hi => by omega) hne
  · obtain ⟨g, cap, hv, hb, hg⟩ := h.form h0
    rw [hv] at h ⊢
    exact fieldOfT_none g cap k hk NM TY EL AT nm w hg (grow_of_owns h) hne
theorem fieldOfT_row_yes (v : Value) (base k m : Nat) (hk : k ≤ 1000000) (hm : m < k) (NM : Nat → ByteArray) (TY : Nat → Ty) (EL : Nat → Option Addr) (AT : Nat → Int) (w : World) (h : w.ownsRow base 45 11 v k (cellsT NM TY EL AT k))
    (hne : ∀ i, i < m → ((NM i).toList == (NM m).toList) = false) :
    Calls Tryd.prog 33 #[v, .string (NM m)] w (TupRes (.tuple #[fldT (NM m) (TY m) (EL m) (AT m), .bool true]) w) := by
  obtain ⟨g, cap, hv, hb, hg⟩ := h.form (by omega)
  rw [hv] at h ⊢
  exact fieldOfT_found g cap k m hk hm NM TY EL AT w hg (grow_of_owns h) hne

/-- Where the fields so far end, and the greatest alignment so far, over a table. -/
def endT (n : Nat) (SZ AL : Nat → Int) (TY : Nat → Ty) : Nat → Int
  | 0 => 0
  | k + 1 => upM (endT n SZ AL TY k) (alignM n AL (TY k)) + sizeM n SZ (TY k)
def alT (n : Nat) (AL : Nat → Int) (TY : Nat → Ty) : Nat → Int
  | 0 => 1
  | k + 1 => max (alT n AL TY k) (alignM n AL (TY k))
theorem alignM_range (n : Nat) (AL : Nat → Int) (ha : ∀ k, k < n → 1 ≤ AL k ∧ AL k ≤ 8) : ∀ t, OkT t → 1 ≤ alignM n AL t ∧ alignM n AL t ≤ 8 := by
  intro t
  induction t with
  | void => intro _; exact ⟨by simp [alignM], by simp [alignM]⟩
  | int k b c => intro h; exact h
  | ptr t ih => intro _; exact ⟨by simp [alignM], by simp [alignM]⟩
  | arr t m ih => intro h; exact ih h.2.2
  | st k =>
    intro _
    unfold alignM
    split
    · rename_i h; exact ha _ (by omega)
    · exact ⟨by decide, by decide⟩
theorem alT_range (n : Nat) (AL : Nat → Int) (TY : Nat → Ty) (m : Nat) (ha : ∀ k, k < n → 1 ≤ AL k ∧ AL k ≤ 8) (ok : ∀ k, k < m → OkT (TY k)) : 1 ≤ alT n AL TY m ∧ alT n AL TY m ≤ 8 := by
  induction m with
  | zero => exact ⟨by simp [alT], by simp [alT]⟩
  | succ m ih =>
    have h1 := ih (fun k hk => ok k (by omega))
    have h2 := alignM_range n AL ha (TY m) (ok m (by omega))
    unfold alT
    omega
end Go.Proofs.YtoajcggiccfaiaaDoor
