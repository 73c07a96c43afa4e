import Derived.Test.YtdkhanjfncbfnaaCtCB
import Derived.Test.YtdkhanjfncbfnaaCtP
namespace Go.Proofs.Ytdkhanjfncbfnaa
open Go Go.RowKit
set_option linter.unusedVariables false
set_option linter.unusedSimpArgs false

def upd {α : Type} (f : Nat → α) (n : Nat) (x : α) : Nat → α := fun k => if k = n then x else f k
theorem upd_lt {α : Type} (f : Nat → α) (n : Nat) (x : α) {k : Nat} (h : k < n) : upd f n x k = f k := if_neg (by omega)
theorem upd_at {α : Type} (f : Nat → α) (n : Nat) (x : α) : upd f n x n = x := if_pos rfl
def recL (nm : ByteArray) (fa : Option Addr) (fn fc : Nat) (sz al : Int) : List Value := [.string nm, .slice fa fn fc, .int .i64 sz, .int .i64 al]
/-- The cells of the first n structs. -/
def recsL (SN : Nat → ByteArray) (FA : Nat → Option Addr) (FN FC : Nat → Nat) (SZ AL : Nat → Int) : Nat → List Value
  | 0 => []
  | k + 1 => recsL SN FA FN FC SZ AL k ++ recL (SN k) (FA k) (FN k) (FC k) (SZ k) (AL k)
theorem recsL_len (SN : Nat → ByteArray) (FA : Nat → Option Addr) (FN FC : Nat → Nat) (SZ AL : Nat → Int) (k : Nat) : (recsL SN FA FN FC SZ AL k).length = k * 4 := by
  induction k with
  | zero => rfl
  | succ k ih => rw [recsL, List.length_append, ih]; simp [recL]; omega
theorem recsL_at (SN : Nat → ByteArray) (FA : Nat → Option Addr) (FN FC : Nat → Nat) (SZ AL : Nat → Int) (n : Nat) : ∀ k j, k < n → j < 4 → (recsL SN FA FN FC SZ AL n)[k * 4 + j]? = (recL (SN k) (FA k) (FN k) (FC k) (SZ k) (AL k))[j]? := by
  induction n with
  | zero => intro k j h; omega
  | succ n ih =>
    intro k j hk hj
    rw [recsL]
    by_cases h : k < n
    · rw [List.getElem?_append_left (by rw [recsL_len]; omega)]; exact ih k j h hj
    · obtain rfl : k = n := by omega
      rw [List.getElem?_append_right (by rw [recsL_len]; omega), recsL_len]
      congr 1; omega
theorem recsL_upd (SN : Nat → ByteArray) (FA : Nat → Option Addr) (FN FC : Nat → Nat) (SZ AL : Nat → Int) (n : Nat) (nm : ByteArray) (fa : Option Addr) (fn fc : Nat) (sz al : Int) : ∀ k, k ≤ n → recsL (upd SN n nm) (upd FA n fa) (upd FN n fn) (upd FC n fc) (upd SZ n sz) (upd AL n al) k = recsL SN FA FN FC SZ AL k := by
  intro k
  induction k with
  | zero => intro _; rfl
  | succ k ih => intro h; rw [recsL, recsL, ih (by omega), upd_lt _ _ _ (by omega), upd_lt _ _ _ (by omega), upd_lt _ _ _ (by omega), upd_lt _ _ _ (by omega), upd_lt _ _ _ (by omega), upd_lt _ _ _ (by omega)]

/-- A table that owns its structs' row. -/
structure TabW (w : World) (tb base : Nat) (va : Value) (n : Nat) (SN : Nat → ByteArray) (FA : Nat → Option Addr) (FN FC : Nat → Nat) (SZ AL : Nat → Int) : Prop where
  t : w.cell? ⟨tb, 0, none⟩ = some va
  f : w.frozen? ⟨tb, 0, none⟩ = false
  o : w.ownsRow base 110 4 va n (recsL SN FA FN FC SZ AL n)
theorem TabW.below {w w' : World} {tb base n : Nat} {va : Value} {SN : Nat → ByteArray} {FA : Nat → Option Addr} {FN FC : Nat → Nat} {SZ AL : Nat → Int} (h : TabW w tb base va n SN FA FN FC SZ AL) (hb : Below w.heap.size w w') : TabW w' tb base va n SN FA FN FC SZ AL := by
  have hl := World.block_lt_of_cell? w _ h.t
  exact ⟨by rw [hb.cell (by exact hl)]; exact h.t, by rw [hb.frozen (by exact hl)]; exact h.f, ownsRow_below h.o hb⟩
theorem TabW.tab {w : World} {tb base n : Nat} {va : Value} {SN : Nat → ByteArray} {FA : Nat → Option Addr} {FN FC : Nat → Nat} {SZ AL : Nat → Int} (h : TabW w tb base va n SN FA FN FC SZ AL) : ∃ a rb rc, va = .slice a n rc ∧ TabN w tb rb n rc a SN FA FN FC SZ AL := by
  rcases Nat.eq_zero_or_pos n with h0 | h0
  · subst h0
    rcases h.o.2 with ⟨hv, _⟩ | ⟨g, cap, cur, hv, _⟩
    · exact ⟨none, 0, 0, hv, ⟨by rw [h.t, hv], fun h => by omega, fun h => by omega, fun k h => by omega⟩⟩
    · exact ⟨_, 0, cap, hv, ⟨by rw [h.t, hv], fun h => by omega, fun h => by omega, fun k h => by omega⟩⟩
  · obtain ⟨g, cap, hv, hb, hg⟩ := h.o.form h0
    refine ⟨some ⟨g, 0, none⟩, g, cap, hv, ⟨by rw [h.t, hv], fun _ => rfl, fun _ => hg, fun k hk => ?_⟩⟩
    have ho := h.o
    rw [hv] at ho
    have hj : ∀ j, j < 4 → w.cell? ⟨g, k * 4 + j, none⟩ = (recL (SN k) (FA k) (FN k) (FC k) (SZ k) (AL k))[j]? := fun j hj => by
      rw [ho.cellAt (k * 4 + j) (by omega), recsL_at _ _ _ _ _ _ _ _ _ hk hj]
    exact ⟨by simpa [recL] using hj 0 (by omega), by simpa [recL] using hj 1 (by omega), by simpa [recL] using hj 2 (by omega), by simpa [recL] using hj 3 (by omega)⟩

/-- What Add answers. -/
def AddOk (tb base n : Nat) (va : Value) (SN : Nat → ByteArray) (FA : Nat → Option Addr) (FN FC : Nat → Nat) (SZ AL : Nat → Int) (nm : ByteArray) (m : Nat) (NM : Nat → ByteArray) (TY : Nat → Ty) (w : World) (e : Ending) (w' : World) : Prop :=
  ∃ va' g c EL, e = .returned (.tuple #[.int .i64 n, .int .i64 0])
    ∧ TabW w' tb base va' (n + 1) (upd SN n nm) (upd FA n (some ⟨g, 0, none⟩)) (upd FN n m) (upd FC n c) (upd SZ n (upM (endT n SZ AL TY m) (alT n AL TY m))) (upd AL n (alT n AL TY m))
    ∧ GRow w' g m NM TY EL (offT n SZ AL TY) ∧ w.heap.size ≤ g ∧ g < w'.heap.size ∧ va'.ownBlock ≠ some g
    ∧ (∀ i, i < m → ElIn w' (PB w.heap.size va' w') (TY i) (EL i))
    ∧ (∀ b, b < w.heap.size → b ≠ tb → va.ownBlock ≠ some b → (∀ o, w'.cell? ⟨b, o, none⟩ = w.cell? ⟨b, o, none⟩) ∧ va'.ownBlock ≠ some b)
    ∧ w.heap.size ≤ w'.heap.size ∧ Below tb w w'
def AddEnd (tb base n : Nat) (va : Value) (SN : Nat → ByteArray) (FA : Nat → Option Addr) (FN FC : Nat → Nat) (SZ AL : Nat → Int) (nm : ByteArray) (m : Nat) (NM : Nat → ByteArray) (TY : Nat → Ty) (code : Int) (w : World) (e : Ending) (w' : World) : Prop :=
  (code = 0 ∧ AddOk tb base n va SN FA FN FC SZ AL nm m NM TY w e w') ∨ (code ≠ 0 ∧ e = .returned (.tuple #[.int .i64 0, .int .i64 code]) ∧ Below w.heap.size w w')
/-- After the record was appended. -/
def NewRecT (tb base n : Nat) (Y : World) (va : Value) (SN : Nat → ByteArray) (FA : Nat → Option Addr) (FN FC : Nat → Nat) (SZ AL : Nat → Int) (nm : ByteArray) (g m c : Nat) (sz al : Int) (wx : World) : Prop :=
  ∃ rb rc, TabW wx tb base (.slice (some ⟨rb, 0, none⟩) (n + 1) rc) (n + 1) (upd SN n nm) (upd FA n (some ⟨g, 0, none⟩)) (upd FN n m) (upd FC n c) (upd SZ n sz) (upd AL n al)
    ∧ Y.heap.size ≤ wx.heap.size ∧ (va.ownBlock = some rb ∨ Y.heap.size ≤ rb) ∧ Below tb Y wx ∧ ∀ b, b < Y.heap.size → b ≠ tb → va.ownBlock ≠ some b → ∀ o, wx.cell? ⟨b, o, none⟩ = Y.cell? ⟨b, o, none⟩

theorem add_twice (tb base n : Nat) (hn : n ≤ 20) (va : Value) (SN : Nat → ByteArray) (FA : Nat → Option Addr) (FN FC : Nat → Nat) (SZ AL : Nat → Int) (nm : ByteArray) (fv : Value) (j : Nat) (hj : j < n) (hjn : ((SN j).toList == nm.toList) = true) (hne : ∀ k, k < j → ((SN k).toList == nm.toList) = false) (w : World) (ht : TabW w tb base va n SN FA FN FC SZ AL) :
    Calls Try.prog 15 #[.pointer (some ⟨tb, 0, none⟩), .string nm, fv] w (TupRes (.tuple #[.int .i64 0, .int .i64 13]) w) := by
  obtain ⟨a, rb, rc, hva, htn⟩ := ht.tab
  have HF := Lib.hid (find_yes tb rb n rc (by omega) a SN FA FN FC SZ AL nm j hj hjn hne w htn)
  clear htn ht hne
  go_enter Try.func15, Try.ntmps15
  go_wp2_with (go_at_call 37; refine HF.out.mono ?_; rintro e w1 ⟨rfl, hb⟩; have HB := Lib.hid hb; clear hb)
  go_ret2
  exact ⟨rfl, HB.out⟩

theorem add_count (tb base n : Nat) (hn : n ≤ 20) (va : Value) (SN : Nat → ByteArray) (FA : Nat → Option Addr) (FN FC : Nat → Nat) (SZ AL : Nat → Int) (nm : ByteArray) (fa : Option Addr) (m fc : Nat) (hm : m ≤ 1000) (hc : n = 20 ∨ 20 < m) (hne : ∀ k, k < n → ((SN k).toList == nm.toList) = false) (w : World) (ht : TabW w tb base va n SN FA FN FC SZ AL) :
    Calls Try.prog 15 #[.pointer (some ⟨tb, 0, none⟩), .string nm, .slice fa m fc] w (TupRes (.tuple #[.int .i64 0, .int .i64 4]) w) := by
  obtain ⟨a, rb, rc, rfl, htn⟩ := ht.tab
  have htb := World.block_lt_of_cell? w _ ht.t
  simp at htb
  have HF := Lib.hid (find_no tb rb n rc (by omega) a SN FA FN FC SZ AL nm hne w htn)
  have HT := Lib.hid ht.t
  clear htn ht hne
  have d1 : decide (20 ≤ n) = decide (n = 20) := by simp; omega
  have d2 : 20 ≤ n ∨ 20 < m := by omega
  go_enter Try.func15, Try.ntmps15
  go_wp2_with (go_at_call 37; refine HF.out.mono ?_; rintro e w1 ⟨rfl, hb⟩; have HB := Lib.hid hb; have ht1 : w1.cell? ⟨tb, 0, none⟩ = some (.slice a n rc) := (by rw [hb.cell (by exact htb)]; exact HT.out); clear hb)
  all_goals
    go_ret2
    exact ⟨rfl, HB.out⟩

open Go Go.RowKit
set_option linter.unusedVariables false
set_option linter.unusedSimpArgs false

/-- The names' row of a struct. -/
def NmRow (w : World) (P : Nat → Prop) (v : Option Addr × Nat × Nat) (c : Nat) (NM : Nat → ByteArray) : Prop :=
  v.2.1 = c ∧ (0 < c → ∃ g, v.1 = some ⟨g, 0, none⟩ ∧ P g ∧ ∀ i, i < c → w.cell? ⟨g, i, none⟩ = some (.string (NM i)))
theorem NmRow.keep {w w' : World} {P Q : Nat → Prop} {v : Option Addr × Nat × Nat} {c : Nat} {NM : Nat → ByteArray} (h : NmRow w P v c NM) (hk : ∀ b, P b → ∀ o, w'.cell? ⟨b, o, none⟩ = w.cell? ⟨b, o, none⟩) (hq : ∀ b, P b → Q b) : NmRow w' Q v c NM :=
  ⟨h.1, fun hc => by
    obtain ⟨g, h1, h2, h3⟩ := h.2 hc
    exact ⟨g, h1, hq g h2, fun i hi => by rw [hk g h2]; exact h3 i hi⟩⟩

section
variable {w w' : World} {P Q : Nat → Prop} {lb N lc : Nat} {la : Option Addr} {RN : Nat → ByteArray} {RV : Nat → Option Addr × Nat × Nat} {G CT CC : Nat → Nat} {NM : Nat → Nat → ByteArray} {TY : Nat → Nat → Ty} {EL : Nat → Nat → Option Addr}
end

/-- The rows of the program's structs. -/
structure PRows (w : World) (P : Nat → Prop) (n : Nat) (FA : Nat → Option Addr) (FN : Nat → Nat) (GP CT : Nat → Nat) (NM : Nat → Nat → ByteArray) (TY : Nat → Nat → Ty) (EL : Nat → Nat → Option Addr) (SZ AL : Nat → Int) : Prop where
  a : ∀ k, k < n → FA k = some ⟨GP k, 0, none⟩ ∧ FN k = CT k ∧ P (GP k)
  r : ∀ k, k < n → GRow w (GP k) (CT k) (NM k) (TY k) (EL k) (offT k SZ AL (TY k))
  t : ∀ k, k < n → ∀ i, i < CT k → ElIn w P (TY k i) (EL k i)
theorem PRows.keep {w w' : World} {P Q : Nat → Prop} {n : Nat} {FA : Nat → Option Addr} {FN : Nat → Nat} {GP CT : Nat → Nat} {NM : Nat → Nat → ByteArray} {TY : Nat → Nat → Ty} {EL : Nat → Nat → Option Addr} {SZ AL : Nat → Int}
    (h : PRows w P n FA FN GP CT NM TY EL SZ AL) (hk : ∀ b, P b → ∀ o, w'.cell? ⟨b, o, none⟩ = w.cell? ⟨b, o, none⟩) (hq : ∀ b, P b → Q b) : PRows w' Q n FA FN GP CT NM TY EL SZ AL :=
  ⟨fun k hl => ⟨(h.a k hl).1, (h.a k hl).2.1, hq _ (h.a k hl).2.2⟩, fun k hl => (h.r k hl).same (hk _ (h.a k hl).2.2), fun k hl i hi => (h.t k hl i hi).keep hk hq⟩
end Go.Proofs.Ytdkhanjfncbfnaa
