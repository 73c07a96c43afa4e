import Derived.Test.YtoajcggiccfaiaaDoorCtCG
import Derived.Test.YtoajcggiccfaiaaDoorCtCC
import Derived.Deep.RegionLaw
namespace Go.Proofs.YtoajcggiccfaiaaDoor
open Go Go.RowKit
set_option linter.unusedVariables false
set_option linter.unusedSimpArgs false

theorem infoRec3 : (Tryd.prog.info? 65).map (fun i => (i.zero, i.size, i.bytes)) = some (some (.agg #[.string ⟨#[]⟩, .slice none 0 0, .slice none 0 0]), 3, 64) := by kernel_rfl
theorem infoStr : (Tryd.prog.info? 9).map (fun i => (i.zero, i.size, i.bytes)) = some (some (.string ⟨#[]⟩), 1, 16) := by kernel_rfl
theorem infoTyp : (Tryd.prog.info? 34).map (fun i => (i.zero, i.size, i.bytes)) = some (some (tyV .void none), 9, 80) := by kernel_rfl

/-- The whole of a slice appended to nil: a copy. -/
theorem step_append_copy {P : Program} {ops : Array Oper} {o : Oper} {a : Act} {w : World} {K : Act → World → Prop} {Q : Exit → Act → World → Prop} {E : Prop} (hgd : o.guard = none) (s x : Operand) (t : TypeId)
    (ho : o.op = .call { callee := .builtin .append, args := #[s, x], argTypes := #[t, t] })
    (base : Nat) (e : TypeId) (i : TypeInfo) (z : Value) (size bytes : Nat) (ht : P.underlying t = some (.slice e)) (hi : P.info? e = some i) (hz : i.zero = some z)
    (hsize : i.size = size) (hby : i.bytes = bytes) (hzs : z.cells.size = size) (hsz : 0 < size)
    (la : Option Addr) (lb n lc : Nat) (news : List Value) (h0 : n = 0 → la = none ∧ lc = 0) (h1 : 0 < n → la = some ⟨lb, 0, none⟩) (hs : a.eval s = .slice none 0 0) (hx : a.eval x = .slice la n lc)
    (hl : news.length = n * size) (hnews : 0 < n → ∀ j u, news[j]? = some u → w.cell? ⟨lb, j, none⟩ = some u) (hone : ∀ u ∈ news, u.oneCell' = true)
    (h63 : n ≤ maxLen) (hbytes : n * bytes ≤ 140737488355328) (hbase : base ≤ w.heap.size)
    (h : ∀ v' w', w'.ownsRow base e size v' n news → w.grownBy w' none → K (a.put o.dst v') w') :
    if Region.wanted o (yielded ops a.tmps) = true then Oper.wp P o a w K Q else E := by
  rcases Nat.eq_zero_or_pos n with hn | hn
  · subst hn
    obtain ⟨rfl, rfl⟩ := h0 rfl
    have hnil : news = [] := List.eq_nil_of_length_eq_zero (by simpa using hl)
    subst hnil
    have hw : Region.wanted o (yielded ops a.tmps) = true := by simp [Region.wanted, hgd]
    rw [if_pos hw]
    have hr : (Builtin.append_ #[t, t] o.type #[.slice none 0 0, .slice none 0 0]).run P w = .ok (.slice none 0 0) w := by
      simp [Builtin.append_, run_underlying ht, sizeOf, typeInfo, hi, Builtin.lenOf, Builtin.firstCells, loadCells, loadCellsFrom]
    unfold Oper.wp execOp
    simp only [ho, resolve, invoke, builtin, Sem.run_bind, Sem.run_pure, Result.andThen_ok, List.map_toArray, List.map_cons, List.map_nil, hs, hx, hr]
    exact h _ _ (World.ownsRow_nil _ _ _ _) ⟨rfl, rfl, rfl, Nat.le_refl _, fun _ _ _ => rfl⟩
  · obtain rfl := h1 hn
    refine step_append_lies w hgd s x t ho base e i z size bytes ht hi hz hsize hby hzs hsz (.slice none 0 0) 0 [] hs (World.ownsRow_nil _ _ _ _) ⟨lb, 0, none⟩ n lc news hx hl (fun j u hj => ?_) hone hn (by omega) (by rw [Nat.zero_add]; exact hbytes) hbase w.heap.size rfl ?_
    · have hadd : (⟨lb, 0, none⟩ : Addr).add j = ⟨lb, j, none⟩ := by unfold Addr.add; split <;> simp_all
      rw [hadd]; exact hnews hn j u hj
    · intro g cap w' hown hgrow _ _
      simp only [Nat.zero_add, List.nil_append] at hown ⊢
      exact h _ _ hown (by simpa [Value.ownBlock] using hgrow)

/-- Two rows of elements of different types lie in different blocks. -/
theorem own_apart {w : World} {b1 b2 : Nat} {e1 e2 : TypeId} {s1 s2 : Nat} {v1 v2 : Value} {n1 n2 : Nat} {x1 x2 : List Value} (h1 : w.ownsRow b1 e1 s1 v1 n1 x1) (h2 : w.ownsRow b2 e2 s2 v2 n2 x2) (hne : e1 ≠ e2) : v1.ownBlock = none ∨ v1.ownBlock ≠ v2.ownBlock := by
  rcases h1.2 with ⟨rfl, _⟩ | ⟨g1, c1, u1, rfl, _, hg1, _⟩
  · exact Or.inl rfl
  · right
    rcases h2.2 with ⟨rfl, _⟩ | ⟨g2, c2, u2, rfl, _, hg2, _⟩
    · simp [Value.ownBlock]
    · intro h
      have : g1 = g2 := by simpa [Value.ownBlock] using h
      subst this
      rw [hg1] at hg2
      have := Option.some.inj hg2
      injection this with _ he _
      exact hne he

def namesL (NM : Nat → ByteArray) : Nat → List Value
  | 0 => []
  | k + 1 => namesL NM k ++ [.string (NM k)]
theorem namesL_len (NM : Nat → ByteArray) (k : Nat) : (namesL NM k).length = k * 1 := by
  induction k with
  | zero => rfl
  | succ k ih => rw [namesL, List.length_append, ih]; simp
theorem namesL_at (NM : Nat → ByteArray) (n : Nat) : ∀ k, k < n → (namesL NM n)[k]? = some (.string (NM k)) := by
  induction n with
  | zero => intro k h; omega
  | succ n ih =>
    intro k hk
    rw [namesL]
    by_cases h : k < n
    · rw [List.getElem?_append_left (by rw [namesL_len]; omega)]; exact ih k h
    · obtain rfl : k = n := by omega
      rw [List.getElem?_append_right (by rw [namesL_len]; omega), namesL_len]; simp
def tyL (t : Ty) (el : Option Addr) : List Value := [.int .i64 t.kind, .int .i64 t.size, .bool t.sg, .bool t.sc, .pointer el, .int .i64 t.len, .int .i64 t.num, .slice none 0 0, .pointer none]
def typesL (TY : Nat → Ty) (EL : Nat → Option Addr) : Nat → List Value
  | 0 => []
  | k + 1 => typesL TY EL k ++ tyL (TY k) (EL k)
theorem typesL_len (TY : Nat → Ty) (EL : Nat → Option Addr) (k : Nat) : (typesL TY EL k).length = k * 9 := by
  induction k with
  | zero => rfl
  | succ k ih => rw [typesL, List.length_append, ih]; simp [tyL]; omega
theorem typesL_at (TY : Nat → Ty) (EL : Nat → Option Addr) (n : Nat) : ∀ k j, k < n → j < 9 → (typesL TY EL n)[k * 9 + j]? = (tyL (TY k) (EL k))[j]? := by
  induction n with
  | zero => intro k j h; omega
  | succ n ih =>
    intro k j hk hj
    rw [typesL]
    by_cases h : k < n
    · rw [List.getElem?_append_left (by rw [typesL_len]; omega)]; exact ih k j h hj
    · obtain rfl : k = n := by omega
      rw [List.getElem?_append_right (by rw [typesL_len]; omega), typesL_len]
      congr 1; omega
def rec3 (nm : ByteArray) (v : Option Addr × Nat × Nat) (g c cc : Nat) : List Value := [.string nm, .slice v.1 v.2.1 v.2.2, .slice (some ⟨g, 0, none⟩) c cc]
def recs3 (RN : Nat → ByteArray) (RV : Nat → Option Addr × Nat × Nat) (G CT CC : Nat → Nat) : Nat → List Value
  | 0 => []
  | k + 1 => recs3 RN RV G CT CC k ++ rec3 (RN k) (RV k) (G k) (CT k) (CC k)
theorem recs3_len (RN : Nat → ByteArray) (RV : Nat → Option Addr × Nat × Nat) (G CT CC : Nat → Nat) (k : Nat) : (recs3 RN RV G CT CC k).length = k * 3 := by
  induction k with
  | zero => rfl
  | succ k ih => rw [recs3, List.length_append, ih]; simp [rec3]; omega
theorem recs3_at (RN : Nat → ByteArray) (RV : Nat → Option Addr × Nat × Nat) (G CT CC : Nat → Nat) (n : Nat) : ∀ k j, k < n → j < 3 → (recs3 RN RV G CT CC n)[k * 3 + j]? = (rec3 (RN k) (RV k) (G k) (CT k) (CC k))[j]? := by
  induction n with
  | zero => intro k j h; omega
  | succ n ih =>
    intro k j hk hj
    rw [recs3]
    by_cases h : k < n
    · rw [List.getElem?_append_left (by rw [recs3_len]; omega)]; exact ih k j h hj
    · obtain rfl : k = n := by omega
      rw [List.getElem?_append_right (by rw [recs3_len]; omega), recs3_len]
      congr 1; omega
theorem recs3_upd (RN : Nat → ByteArray) (RV : Nat → Option Addr × Nat × Nat) (G CT CC : Nat → Nat) (n : Nat) (nm : ByteArray) (v : Option Addr × Nat × Nat) (g c cc : Nat) : ∀ k, k ≤ n → recs3 (upd RN n nm) (upd RV n v) (upd G n g) (upd CT n c) (upd CC n cc) k = recs3 RN RV G CT CC k := by
  intro k
  induction k with
  | zero => intro _; rfl
  | succ k ih => intro h; rw [recs3, recs3, ih (by omega), upd_lt _ _ _ (by omega), upd_lt _ _ _ (by omega), upd_lt _ _ _ (by omega), upd_lt _ _ _ (by omega), upd_lt _ _ _ (by omega)]
/-- The cells of a list that lies there. -/
theorem recs3_of {w : World} {lb n : Nat} {RN : Nat → ByteArray} {RV : Nat → Option Addr × Nat × Nat} {G CT CC : Nat → Nat} (h : ∀ k, k < n → R3 w lb (k * 3) (RN k) (.slice (RV k).1 (RV k).2.1 (RV k).2.2) (G k) (CT k) (CC k)) :
    ∀ j u, (recs3 RN RV G CT CC n)[j]? = some u → w.cell? ⟨lb, j, none⟩ = some u := by
  intro j u hj
  have hlt : j < n * 3 := by
    rcases Nat.lt_or_ge j (n * 3) with h1 | h1
    · exact h1
    · rw [List.getElem?_eq_none (by rw [recs3_len]; exact h1)] at hj; cases hj
  have hk : j / 3 < n := by omega
  have e : j = j / 3 * 3 + j % 3 := by omega
  rw [e] at hj ⊢
  rw [recs3_at RN RV G CT CC n _ _ hk (Nat.mod_lt _ (by omega))] at hj
  obtain ⟨c0, c1, c2⟩ := h _ hk
  have hm : j % 3 = 0 ∨ j % 3 = 1 ∨ j % 3 = 2 := by omega
  rcases hm with h1 | h1 | h1
  · rw [h1] at hj ⊢; rw [← hj]; exact c0
  · rw [h1] at hj ⊢; rw [← hj]; exact c1
  · rw [h1] at hj ⊢; rw [← hj]; exact c2
/-- What a row that is owned holds. -/
theorem r3_of_owns {w : World} {base g cap n : Nat} {RN : Nat → ByteArray} {RV : Nat → Option Addr × Nat × Nat} {G CT CC : Nat → Nat} (h : w.ownsRow base 65 3 (.slice (some ⟨g, 0, none⟩) n cap) n (recs3 RN RV G CT CC n)) : ∀ k, k < n → R3 w g (k * 3) (RN k) (.slice (RV k).1 (RV k).2.1 (RV k).2.2) (G k) (CT k) (CC k) := by
  intro k hk
  have hj : ∀ j, j < 3 → w.cell? ⟨g, k * 3 + j, none⟩ = (rec3 (RN k) (RV k) (G k) (CT k) (CC k))[j]? := fun j hj => by
    rw [h.cellAt (k * 3 + j) (by omega), recs3_at _ _ _ _ _ _ _ _ hk hj]
  exact ⟨by simpa [rec3] using hj 0 (by omega), by simpa [rec3] using hj 1 (by omega), by simpa [rec3] using hj 2 (by omega)⟩
theorem names_of_owns {w : World} {base g cap n : Nat} {NM : Nat → ByteArray} (h : w.ownsRow base 9 1 (.slice (some ⟨g, 0, none⟩) n cap) n (namesL NM n)) : ∀ k, k < n → w.cell? ⟨g, k, none⟩ = some (.string (NM k)) := by
  intro k hk
  rw [h.cellAt k (by omega), namesL_at _ _ _ hk]
theorem types_of_owns {w : World} {base g cap n : Nat} {TY : Nat → Ty} {EL : Nat → Option Addr} (h : w.ownsRow base 34 9 (.slice (some ⟨g, 0, none⟩) n cap) n (typesL TY EL n)) : ∀ k, k < n → Cells9 w g (k * 9) (TY k) (EL k) := by
  intro k hk
  have hj : ∀ j, j < 9 → w.cell? ⟨g, k * 9 + j, none⟩ = (tyL (TY k) (EL k))[j]? := fun j hj => by
    rw [h.cellAt (k * 9 + j) (by omega), typesL_at _ _ _ _ _ hk hj]
  exact ⟨by simpa [tyL] using hj 0 (by omega), by simpa [tyL] using hj 1 (by omega), by simpa [tyL] using hj 2 (by omega), by simpa [tyL] using hj 3 (by omega), by simpa [tyL] using hj 4 (by omega), by simpa [tyL] using hj 5 (by omega), by simpa [tyL] using hj 6 (by omega), by simpa [tyL] using hj 7 (by omega), by simpa [tyL] using hj 8 (by omega)⟩

/-- The struct that is handed in: its name, its names' row, its types' row. -/
structure RArg (w : World) (m : Nat) (va : Option Addr) (ta : Option Addr) (nb gb : Nat) (NM : Nat → ByteArray) (TY : Nat → Ty) (EL : Nat → Option Addr) : Prop where
  a : 0 < m → va = some ⟨nb, 0, none⟩ ∧ ta = some ⟨gb, 0, none⟩
  l : 0 < m → nb < w.heap.size ∧ gb < w.heap.size
  n : ∀ i, i < m → w.cell? ⟨nb, i, none⟩ = some (.string (NM i))
  t : ∀ i, i < m → Cells9 w gb (i * 9) (TY i) (EL i) ∧ ElAt w 0 w.heap.size (TY i) (EL i)
theorem RArg.below {w w' : World} {m : Nat} {va ta : Option Addr} {nb gb : Nat} {NM : Nat → ByteArray} {TY : Nat → Ty} {EL : Nat → Option Addr} (h : RArg w m va ta nb gb NM TY EL) (hb : Below w.heap.size w w') : RArg w' m va ta nb gb NM TY EL :=
  ⟨h.a, fun hm => ⟨Nat.lt_of_lt_of_le (h.l hm).1 hb.size, Nat.lt_of_lt_of_le (h.l hm).2 hb.size⟩, fun i hi => by rw [hb.cell (by exact (h.l (by omega)).1)]; exact h.n i hi,
    fun i hi => ⟨(h.t i hi).1.below hb (h.l (by omega)).2, ((h.t i hi).2.below hb (Nat.le_refl _)).mono (Nat.le_refl _) hb.size⟩⟩
end Go.Proofs.YtoajcggiccfaiaaDoor
