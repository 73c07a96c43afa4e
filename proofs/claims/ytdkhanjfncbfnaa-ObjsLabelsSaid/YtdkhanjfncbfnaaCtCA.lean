import Derived.Test.YtdkhanjfncbfnaaCtBE
import Derived.Test.YtdkhanjfncbfnaaCtP
namespace Go.Proofs.Ytdkhanjfncbfnaa
open Go Go.RowKit
set_option linter.unusedVariables false
set_option linter.unusedSimpArgs false

def fldTL (nm : ByteArray) (t : Ty) (el : Option Addr) (a : Int) : List Value := [.string nm, .int .i64 t.kind, .int .i64 t.size, .bool t.sg, .bool t.sc, .pointer el, .int .i64 t.len, .int .i64 t.num, .slice none 0 0, .pointer none, .int .i64 a]
/-- The cells of the first n fields. -/
def cellsT (NM : Nat → ByteArray) (TY : Nat → Ty) (EL : Nat → Option Addr) (AT : Nat → Int) : Nat → List Value
  | 0 => []
  | k + 1 => cellsT NM TY EL AT k ++ fldTL (NM k) (TY k) (EL k) (AT k)
theorem cellsT_len (NM : Nat → ByteArray) (TY : Nat → Ty) (EL : Nat → Option Addr) (AT : Nat → Int) (k : Nat) : (cellsT NM TY EL AT k).length = k * 11 := by
  induction k with
  | zero => rfl
  | succ k ih => rw [cellsT, List.length_append, ih]; simp [fldTL]; omega
theorem cellsT_at (NM : Nat → ByteArray) (TY : Nat → Ty) (EL : Nat → Option Addr) (AT : Nat → Int) (n : Nat) : ∀ k j, k < n → j < 11 → (cellsT NM TY EL AT n)[k * 11 + j]? = (fldTL (NM k) (TY k) (EL k) (AT k))[j]? := by
  induction n with
  | zero => intro k j h; omega
  | succ n ih =>
    intro k j hk hj
    rw [cellsT]
    by_cases h : k < n
    · rw [List.getElem?_append_left (by rw [cellsT_len]; omega)]; exact ih k j h hj
    · obtain rfl : k = n := by omega
      rw [List.getElem?_append_right (by rw [cellsT_len]; omega), cellsT_len]
      congr 1; omega
/-- What is appended hangs on the pointers of the fields so far alone. -/
theorem cellsT_congr {NM : Nat → ByteArray} {TY : Nat → Ty} {EL EL' : Nat → Option Addr} {AT : Nat → Int} (n : Nat) (h : ∀ k, k < n → EL k = EL' k) : cellsT NM TY EL AT n = cellsT NM TY EL' AT n := by
  induction n with
  | zero => rfl
  | succ n ih => rw [cellsT, cellsT, ih (fun k hk => h k (by omega)), h n (by omega)]

theorem grow_of_owns {w : World} {base g cap n : Nat} {NM : Nat → ByteArray} {TY : Nat → Ty} {EL : Nat → Option Addr} {AT : Nat → Int} (h : w.ownsRow base 61 11 (.slice (some ⟨g, 0, none⟩) n cap) n (cellsT NM TY EL AT n)) : GRow w g n NM TY EL AT := by
  intro k hk
  have hj : ∀ j, j < 11 → w.cell? ⟨g, k * 11 + j, none⟩ = (fldTL (NM k) (TY k) (EL k) (AT k))[j]? := fun j hj => by
    rw [h.cellAt (k * 11 + j) (by omega), cellsT_at _ _ _ _ _ _ _ hk hj]
  exact ⟨by simpa [fldTL] using hj 0 (by omega), by simpa [fldTL] using hj 1 (by omega), by simpa [fldTL] using hj 2 (by omega), by simpa [fldTL] using hj 3 (by omega), by simpa [fldTL] using hj 4 (by omega), by simpa [fldTL] using hj 5 (by omega), by simpa [fldTL] using hj 6 (by omega), by simpa [fldTL] using hj 7 (by omega), by simpa [fldTL] using hj 8 (by omega), by simpa [fldTL] using hj 9 (by omega), by simpa [fldTL] using hj 10 (by omega)⟩

theorem fieldOfT_row (v : Value) (base k : Nat) (hk : k ≤ 1000000) (NM : Nat → ByteArray) (TY : Nat → Ty) (EL : Nat → Option Addr) (AT : Nat → Int) (nm : ByteArray) (w : World) (h : w.ownsRow base 61 11 v k (cellsT NM TY EL AT k))
    (hne : ∀ i, i < k → ((NM i).toList == nm.toList) = false) :
    Calls Try.prog 55 #[v, .string nm] w (TupRes (.tuple #[fld0, .bool false]) w) := by
  rcases Nat.eq_zero_or_pos k with h0 | h0
  · subst h0
    rcases h.2 with ⟨hv, _⟩ | ⟨g, cap, cur, hv, hg, hh, h3⟩
    · rw [hv]; exact fieldOf_nil nm w
    · rw [hv]
      exact fieldOfT_none g cap 0 (by omega) NM TY EL AT nm w (by
        rcases Nat.lt_or_ge g w.heap.size with h | h
        · exact h
        · rw [Array.getElem?_eq_none h] at hh; cases hh) (fun i hi => by omega) hne
  · obtain ⟨g, cap, hv, hb, hg⟩ := h.form h0
    rw [hv] at h ⊢
    exact fieldOfT_none g cap k hk NM TY EL AT nm w hg (grow_of_owns h) hne
theorem fieldOfT_row_yes (v : Value) (base k m : Nat) (hk : k ≤ 1000000) (hm : m < k) (NM : Nat → ByteArray) (TY : Nat → Ty) (EL : Nat → Option Addr) (AT : Nat → Int) (w : World) (h : w.ownsRow base 61 11 v k (cellsT NM TY EL AT k))
    (hne : ∀ i, i < m → ((NM i).toList == (NM m).toList) = false) :
    Calls Try.prog 55 #[v, .string (NM m)] w (TupRes (.tuple #[fldT (NM m) (TY m) (EL m) (AT m), .bool true]) w) := by
  obtain ⟨g, cap, hv, hb, hg⟩ := h.form (by omega)
  rw [hv] at h ⊢
  exact fieldOfT_found g cap k m hk hm NM TY EL AT w hg (grow_of_owns h) hne

/-- Where the fields so far end, and the greatest alignment so far, over a table. -/
def endT (n : Nat) (SZ AL : Nat → Int) (TY : Nat → Ty) : Nat → Int
  | 0 => 0
  | k + 1 => upM (endT n SZ AL TY k) (alignM n AL (TY k)) + sizeM n SZ (TY k)
def alT (n : Nat) (AL : Nat → Int) (TY : Nat → Ty) : Nat → Int
  | 0 => 1
  | k + 1 => max (alT n AL TY k) (alignM n AL (TY k))
theorem alignM_range (n : Nat) (AL : Nat → Int) (ha : ∀ k, k < n → 1 ≤ AL k ∧ AL k ≤ 8) : ∀ t, OkT t → 1 ≤ alignM n AL t ∧ alignM n AL t ≤ 8 := by
  intro t
  induction t with
  | void => intro _; exact ⟨by simp [alignM], by simp [alignM]⟩
  | int k b c => intro h; exact h
  | ptr t ih => intro _; exact ⟨by simp [alignM], by simp [alignM]⟩
  | arr t m ih => intro h; exact ih h.2.2
  | st k =>
    intro _
    unfold alignM
    split
    · rename_i h; exact ha _ (by omega)
    · exact ⟨by decide, by decide⟩
theorem alT_range (n : Nat) (AL : Nat → Int) (TY : Nat → Ty) (m : Nat) (ha : ∀ k, k < n → 1 ≤ AL k ∧ AL k ≤ 8) (ok : ∀ k, k < m → OkT (TY k)) : 1 ≤ alT n AL TY m ∧ alT n AL TY m ≤ 8 := by
  induction m with
  | zero => exact ⟨by simp [alT], by simp [alT]⟩
  | succ m ih =>
    have h1 := ih (fun k hk => ok k (by omega))
    have h2 := alignM_range n AL ha (TY m) (ok m (by omega))
    unfold alT
    omega

open Go Go.RowKit
set_option linter.unusedVariables false
set_option linter.unusedSimpArgs false

/-- What lies behind a type's pointer, all of it in blocks of which P holds. -/
def ElIn (w : World) (P : Nat → Prop) : Ty → Option Addr → Prop
  | .ptr t, el => ∃ b e, el = some ⟨b, 0, none⟩ ∧ P b ∧ Cells9 w b 0 t e ∧ ElIn w P t e
  | .arr t _, el => ∃ b e, el = some ⟨b, 0, none⟩ ∧ P b ∧ Cells9 w b 0 t e ∧ ElIn w P t e
  | _, el => el = none

theorem Cells9.same {w w' : World} {b o : Nat} {t : Ty} {el : Option Addr} (h : Cells9 w b o t el) (hk : ∀ o, w'.cell? ⟨b, o, none⟩ = w.cell? ⟨b, o, none⟩) : Cells9 w' b o t el := by
  obtain ⟨h0, h1, h2, h3, h4, h5, h6, h7, h8⟩ := h
  constructor <;> (rw [hk]; assumption)
theorem ElIn.keep {w w' : World} {P Q : Nat → Prop} (hk : ∀ b, P b → ∀ o, w'.cell? ⟨b, o, none⟩ = w.cell? ⟨b, o, none⟩) (hq : ∀ b, P b → Q b) : ∀ {t : Ty} {el : Option Addr}, ElIn w P t el → ElIn w' Q t el := by
  intro t
  induction t with
  | void => exact fun h => h
  | int n a b => exact fun h => h
  | st k => exact fun h => h
  | ptr t ih => rintro el ⟨b, e, h1, h2, h3, h4⟩; exact ⟨b, e, h1, hq b h2, h3.same (hk b h2), ih h4⟩
  | arr t n ih => rintro el ⟨b, e, h1, h2, h3, h4⟩; exact ⟨b, e, h1, hq b h2, h3.same (hk b h2), ih h4⟩
theorem ElIn.mono {w : World} {P Q : Nat → Prop} (hq : ∀ b, P b → Q b) {t : Ty} {el : Option Addr} (h : ElIn w P t el) : ElIn w Q t el := h.keep (fun _ _ _ => rfl) hq
theorem ElIn.of {w : World} {lo hi : Nat} {P : Nat → Prop} (hp : ∀ b, lo ≤ b → b < hi → P b) : ∀ {t : Ty} {el : Option Addr}, ElAt w lo hi t el → ElIn w P t el := by
  intro t
  induction t with
  | void => exact fun h => h
  | int n a b => exact fun h => h
  | st k => exact fun h => h
  | ptr t ih => rintro el ⟨b, e, h1, h2, h3, h4, h5⟩; exact ⟨b, e, h1, hp b h2 h3, h4, ih h5⟩
  | arr t n ih => rintro el ⟨b, e, h1, h2, h3, h4, h5⟩; exact ⟨b, e, h1, hp b h2 h3, h4, ih h5⟩
theorem ElIn.at {w : World} {lo hi : Nat} {P : Nat → Prop} (hp : ∀ b, P b → lo ≤ b ∧ b < hi) : ∀ {t : Ty} {el : Option Addr}, ElIn w P t el → ElAt w lo hi t el := by
  intro t
  induction t with
  | void => exact fun h => h
  | int n a b => exact fun h => h
  | st k => exact fun h => h
  | ptr t ih => rintro el ⟨b, e, h1, h2, h3, h4⟩; exact ⟨b, e, h1, (hp b h2).1, (hp b h2).2, h3, ih h4⟩
  | arr t n ih => rintro el ⟨b, e, h1, h2, h3, h4⟩; exact ⟨b, e, h1, (hp b h2).1, (hp b h2).2, h3, ih h4⟩
/-- Its blocks are there. -/
theorem ElIn.lt {w : World} {P : Nat → Prop} : ∀ {t : Ty} {el : Option Addr}, ElIn w P t el → ElIn w (fun b => P b ∧ b < w.heap.size) t el := by
  intro t
  induction t with
  | void => exact fun h => h
  | int n a b => exact fun h => h
  | st k => exact fun h => h
  | ptr t ih => rintro el ⟨b, e, h1, h2, h3, h4⟩; exact ⟨b, e, h1, ⟨h2, by have := World.block_lt_of_cell? w _ h3.c0; simpa using this⟩, h3, ih h4⟩
  | arr t n ih => rintro el ⟨b, e, h1, h2, h3, h4⟩; exact ⟨b, e, h1, ⟨h2, by have := World.block_lt_of_cell? w _ h3.c0; simpa using this⟩, h3, ih h4⟩
theorem ElIn.elAt {w : World} {P : Nat → Prop} {t : Ty} {el : Option Addr} (h : ElIn w P t el) : ElAt w 0 w.heap.size t el := ElIn.at (fun b hb => ⟨Nat.zero_le _, hb.2⟩) h.lt

theorem GCells.same {w w' : World} {b o : Nat} {nm : ByteArray} {t : Ty} {el : Option Addr} {at_ : Int} (h : GCells w b o nm t el at_) (hk : ∀ o, w'.cell? ⟨b, o, none⟩ = w.cell? ⟨b, o, none⟩) : GCells w' b o nm t el at_ := by
  obtain ⟨h0, h1, h2, h3, h4, h5, h6, h7, h8, h9, h10⟩ := h
  constructor <;> (rw [hk]; assumption)
theorem GRow.same {w w' : World} {g n : Nat} {NM : Nat → ByteArray} {TY : Nat → Ty} {EL : Nat → Option Addr} {AT : Nat → Int} (h : GRow w g n NM TY EL AT) (hk : ∀ o, w'.cell? ⟨g, o, none⟩ = w.cell? ⟨g, o, none⟩) : GRow w' g n NM TY EL AT :=
  fun k hl => (h k hl).same hk
theorem R4.same {w w' : World} {b o : Nat} {nm : ByteArray} {fa : Option Addr} {fn fc : Nat} {sz al : Int} (h : R4 w b o nm fa fn fc sz al) (hk : ∀ o, w'.cell? ⟨b, o, none⟩ = w.cell? ⟨b, o, none⟩) : R4 w' b o nm fa fn fc sz al := by
  obtain ⟨h0, h1, h2, h3⟩ := h
  constructor <;> (rw [hk]; assumption)

/-- Where the fields stand. -/
def offT (n : Nat) (SZ AL : Nat → Int) (TY : Nat → Ty) (i : Nat) : Int := upM (endT n SZ AL TY i) (alignM n AL (TY i))
/-- A type that has a size over k structs has the same over more. -/
theorem sizeM_more (k n : Nat) (hk : k ≤ n) (SZ AL : Nat → Int) : ∀ t, OkT t → sizeM k SZ t ≠ 0 → sizeM n SZ t = sizeM k SZ t ∧ alignM n AL t = alignM k AL t := by
  intro t
  induction t with
  | void => intro _ h; exact absurd rfl h
  | int m a b => intro _ _; exact ⟨rfl, rfl⟩
  | ptr t ih => intro _ _; exact ⟨rfl, rfl⟩
  | arr t m ih =>
    intro ok h
    have h1 : sizeM k SZ t ≠ 0 := by
      intro h0
      apply h
      show timesM m (sizeM k SZ t) = 0
      rw [h0]; unfold timesM
      rw [if_neg, Int.mul_zero]
      rintro ⟨h1, h2⟩
      have := Int.ediv_nonneg (show (0 : Int) ≤ 1099511627776 by omega) (show 0 ≤ m by omega)
      omega
    obtain ⟨e1, e2⟩ := ih ok.2.2 h1
    exact ⟨by show timesM m (sizeM n SZ t) = timesM m (sizeM k SZ t); rw [e1], e2⟩
  | st j =>
    intro _ h
    unfold sizeM at h ⊢
    unfold alignM
    by_cases hj : 0 ≤ j ∧ j < k
    · have hj2 : 0 ≤ j ∧ j < n := by omega
      simp only [if_pos hj, if_pos hj2]; exact ⟨trivial, trivial⟩
    · rw [if_neg hj] at h; exact absurd rfl h
theorem endT_more (k n : Nat) (hk : k ≤ n) (SZ AL : Nat → Int) (TY : Nat → Ty) : ∀ m, (∀ i, i < m → OkT (TY i) ∧ sizeM k SZ (TY i) ≠ 0) → endT n SZ AL TY m = endT k SZ AL TY m ∧ alT n AL TY m = alT k AL TY m := by
  intro m
  induction m with
  | zero => intro _; exact ⟨rfl, rfl⟩
  | succ m ih =>
    intro h
    obtain ⟨h1, h2⟩ := ih fun i hi => h i (by omega)
    obtain ⟨e1, e2⟩ := sizeM_more k n hk SZ AL (TY m) (h m (by omega)).1 (h m (by omega)).2
    unfold endT alT
    rw [h1, h2, e1, e2]; exact ⟨rfl, rfl⟩
theorem sizeM_nonneg (n : Nat) (SZ : Nat → Int) (hs : ∀ k, k < n → 0 ≤ SZ k ∧ SZ k ≤ 1099511627776) (t : Ty) (ok : OkT t) : 0 ≤ sizeM n SZ t := (sizeM_range n SZ hs t ok).1

/-- A struct's fields can be laid out over k structs: how far (m of them). -/
structure RowOk (k : Nat) (SZ AL : Nat → Int) (m : Nat) (NM : Nat → ByteArray) (TY : Nat → Ty) : Prop where
  s : ∀ i, i < m → sizeM k SZ (TY i) ≠ 0
  e : ∀ i, i < m → endT k SZ AL TY (i + 1) ≤ 32768
  d : ∀ i, i < m → ∀ j, j < i → ((NM j).toList == (NM i).toList) = false
/-- Structs that are laid out: their numbers. -/
structure LayM (n : Nat) (CT : Nat → Nat) (NM : Nat → Nat → ByteArray) (TY : Nat → Nat → Ty) (SZ AL : Nat → Int) : Prop where
  n20 : n ≤ 20
  c : ∀ k, k < n → 1 ≤ CT k ∧ CT k ≤ 20
  ok : ∀ k, k < n → ∀ i, i < CT k → OkT (TY k i)
  r : ∀ k, k < n → RowOk k SZ AL (CT k) (NM k) (TY k)
  sz : ∀ k, k < n → SZ k = upM (endT k SZ AL (TY k) (CT k)) (alT k AL (TY k) (CT k))
  al : ∀ k, k < n → AL k = alT k AL (TY k) (CT k)

theorem endT_nonneg (k : Nat) (SZ AL : Nat → Int) (TY : Nat → Ty) (hs : ∀ j, j < k → 0 ≤ SZ j ∧ SZ j ≤ 1099511627776) (ha : ∀ j, j < k → 1 ≤ AL j ∧ AL j ≤ 8) : ∀ m, (∀ i, i < m → OkT (TY i)) → 0 ≤ endT k SZ AL TY m := by
  intro m
  induction m with
  | zero => intro _; exact Int.le_refl 0
  | succ m ih =>
    intro h
    have h1 := ih fun i hi => h i (by omega)
    have h2 := sizeM_nonneg k SZ hs (TY m) (h m (by omega))
    have h3 := (alignM_range k AL ha (TY m) (h m (by omega))).1
    have h4 := (upM_ge (endT k SZ AL TY m) _ h3).1
    unfold endT; omega
/-- Sizes and alignments keep their ranges. -/
theorem LayM.range {n : Nat} {CT : Nat → Nat} {NM : Nat → Nat → ByteArray} {TY : Nat → Nat → Ty} {SZ AL : Nat → Int} (h : LayM n CT NM TY SZ AL) : ∀ k, k < n → (1 ≤ AL k ∧ AL k ≤ 8) ∧ (0 ≤ SZ k ∧ SZ k ≤ 32776) := by
  intro k
  induction k using Nat.strongRecOn with
  | ind k ih =>
    intro hk
    have ha : ∀ j, j < k → 1 ≤ AL j ∧ AL j ≤ 8 := fun j hj => (ih j hj (by omega)).1
    have hs : ∀ j, j < k → 0 ≤ SZ j ∧ SZ j ≤ 1099511627776 := fun j hj => ⟨(ih j hj (by omega)).2.1, by have := (ih j hj (by omega)).2.2; omega⟩
    have h1 := alT_range k AL (TY k) (CT k) ha (h.ok k hk)
    have h2 := endT_nonneg k SZ AL (TY k) hs ha (CT k) (h.ok k hk)
    have h3 := (h.r k hk).e (CT k - 1) (by have := h.c k hk; omega)
    rw [show CT k - 1 + 1 = CT k by have := h.c k hk; omega] at h3
    have h4 := upM_ge (endT k SZ AL (TY k) (CT k)) _ h1.1
    rw [h.al k hk, h.sz k hk]
    exact ⟨h1, by omega, by omega⟩
end Go.Proofs.Ytdkhanjfncbfnaa
