import Derived.Test.YtoajcggiccfaiaaDoorCtCF
namespace Go.Proofs.YtoajcggiccfaiaaDoor
open Go Go.RowKit
set_option linter.unusedVariables false
set_option linter.unusedSimpArgs false

/-- A type's structs (those not behind a pointer) are among the first k, or none at all. -/
def Ref (k N : Nat) : Ty → Prop
  | .st j => j < 0 ∨ j < k ∨ (N : Int) ≤ j
  | .arr t _ => Ref k N t
  | _ => True
theorem ref_of_size (k N : Nat) (SZ : Nat → Int) : ∀ t, OkT t → sizeM k SZ t ≠ 0 → Ref k N t := by
  intro t
  induction t with
  | void => intro _ _; trivial
  | int m a b => intro _ _; trivial
  | ptr t ih => intro _ _; trivial
  | arr t m ih =>
    intro ok h
    apply ih ok.2.2
    intro h0
    apply h
    show timesM m (sizeM k SZ t) = 0
    rw [h0]; unfold timesM
    rw [if_neg, Int.mul_zero]
    rintro ⟨h1, h2⟩
    have := Int.ediv_nonneg (show (0 : Int) ≤ 1099511627776 by omega) (show 0 ≤ m by omega)
    omega
  | st j =>
    intro _ h
    unfold sizeM at h
    by_cases hj : 0 ≤ j ∧ j < k
    · exact Or.inr (Or.inl hj.2)
    · rw [if_neg hj] at h; exact absurd rfl h
theorem ref_all_of (N : Nat) : ∀ t, Ref N N t := by
  intro t
  induction t with
  | void => trivial
  | int m a b => trivial
  | ptr t ih => trivial
  | arr t m ih => exact ih
  | st j => show j < 0 ∨ j < N ∨ (N : Int) ≤ j; omega

theorem LayM.congr {n : Nat} {CT CT' : Nat → Nat} {NM NM' : Nat → Nat → ByteArray} {TY TY' : Nat → Nat → Ty} {SZ SZ' AL AL' : Nat → Int} (h : LayM n CT NM TY SZ AL)
    (h1 : ∀ k, k < n → CT' k = CT k) (h2 : ∀ k, k < n → NM' k = NM k) (h3 : ∀ k, k < n → TY' k = TY k) (h4 : ∀ k, k < n → SZ' k = SZ k) (h5 : ∀ k, k < n → AL' k = AL k) : LayM n CT' NM' TY' SZ' AL' := by
  have e1 : ∀ k, k ≤ n → ∀ t, sizeM k SZ' t = sizeM k SZ t := by
    intro k hk t
    induction t with
    | void => rfl
    | int _ _ _ => rfl
    | ptr _ _ => rfl
    | arr t m ih => show timesM m _ = timesM m _; rw [ih]
    | st j =>
      unfold sizeM
      by_cases hj : 0 ≤ j ∧ j < k
      · rw [if_pos hj, if_pos hj]; exact h4 _ (by omega)
      · rw [if_neg hj, if_neg hj]
  have e2 : ∀ k, k ≤ n → ∀ t, alignM k AL' t = alignM k AL t := by
    intro k hk t
    induction t with
    | void => rfl
    | int _ _ _ => rfl
    | ptr _ _ => rfl
    | arr t m ih => exact ih
    | st j =>
      unfold alignM
      by_cases hj : 0 ≤ j ∧ j < k
      · rw [if_pos hj, if_pos hj]; exact h5 _ (by omega)
      · rw [if_neg hj, if_neg hj]
  have e3 : ∀ k, k ≤ n → ∀ T m, endT k SZ' AL' T m = endT k SZ AL T m ∧ alT k AL' T m = alT k AL T m := by
    intro k hk T m
    induction m with
    | zero => exact ⟨rfl, rfl⟩
    | succ m ih => unfold endT alT; rw [ih.1, ih.2, e1 k hk, e2 k hk]; exact ⟨rfl, rfl⟩
  refine ⟨h.n20, fun k hk => by rw [h1 k hk]; exact h.c k hk, fun k hk => by rw [h1 k hk, h3 k hk]; exact h.ok k hk, fun k hk => ?_, fun k hk => ?_, fun k hk => ?_⟩
  · rw [h1 k hk, h2 k hk, h3 k hk]
    exact ⟨fun i hi => by rw [e1 k (by omega)]; exact (h.r k hk).s i hi, fun i hi => by rw [(e3 k (by omega) _ _).1]; exact (h.r k hk).e i hi, (h.r k hk).d⟩
  · rw [h4 k hk, h3 k hk, h1 k hk, (e3 k (by omega) _ _).1, (e3 k (by omega) _ _).2]; exact h.sz k hk
  · rw [h5 k hk, h3 k hk, h1 k hk, (e3 k (by omega) _ _).2]; exact h.al k hk
theorem LayM.less {n m : Nat} {CT : Nat → Nat} {NM : Nat → Nat → ByteArray} {TY : Nat → Nat → Ty} {SZ AL : Nat → Int} (h : LayM n CT NM TY SZ AL) (hm : m ≤ n) : LayM m CT NM TY SZ AL :=
  ⟨by have := h.n20; omega, fun k hk => h.c k (by omega), fun k hk => h.ok k (by omega), fun k hk => h.r k (by omega), fun k hk => h.sz k (by omega), fun k hk => h.al k (by omega)⟩
theorem endT_le (k : Nat) (SZ AL : Nat → Int) (TY : Nat → Ty) (hs : ∀ j, j < k → 0 ≤ SZ j ∧ SZ j ≤ 1099511627776) (ha : ∀ j, j < k → 1 ≤ AL j ∧ AL j ≤ 8) : ∀ m : Nat, (∀ i, i < m → OkT (TY i)) → endT k SZ AL TY m ≤ m * 1099511627800 := by
  intro m
  induction m with
  | zero => intro _; unfold endT; omega
  | succ m ih =>
    intro h
    have h1 := ih fun i hi => h i (by omega)
    have h2 := (sizeM_range k SZ hs (TY m) (h m (by omega))).2
    have h3 := alignM_range k AL ha (TY m) (h m (by omega))
    have h4 := (upM_ge (endT k SZ AL TY m) _ h3.1).2
    unfold endT
    push_cast
    omega
theorem maxTo_alT (k : Nat) (AL : Nat → Int) (TY : Nat → Ty) (m : Nat) : maxTo (fun i => alignM k AL (TY i)) m = alT k AL TY m := by
  induction m with
  | zero => rfl
  | succ m ih => unfold maxTo alT; rw [ih]

section
variable (lb N lc : Nat) (la : Option Addr) (RN : Nat → ByteArray) (RV : Nat → Option Addr × Nat × Nat) (G CT CC : Nat → Nat) (TY : Nat → Nat → Ty) (EL : Nat → Nat → Option Addr)

/-- Size and Align of a type whose structs are known. -/
theorem ref_ty (hN : N ≤ 1000000) (k : Nat) (hk : k ≤ N) (SZ AL : Nat → Int) (hs : ∀ j, j < k → 0 ≤ SZ j ∧ SZ j ≤ 1099511627776) (ha : ∀ j, j < k → 1 ≤ AL j ∧ AL j ≤ 8)
    (hst : ∀ j, j < k → ∀ w : World, RTab w lb N lc la RN RV G CT CC TY EL → Calls Tryd.prog 9 #[.slice la N lc, tyV (.st j) none] w (IntRes (SZ j) w) ∧ Calls Tryd.prog 11 #[.slice la N lc, tyV (.st j) none] w (IntRes (AL j) w)) (t : Ty) :
    OkT t → Ref k N t → ∀ (el : Option Addr) (w : World), RTab w lb N lc la RN RV G CT CC TY EL → ElAt w 0 w.heap.size t el →
    Calls Tryd.prog 9 #[.slice la N lc, tyV t el] w (IntRes (sizeM k SZ t) w) ∧ Calls Tryd.prog 11 #[.slice la N lc, tyV t el] w (IntRes (alignM k AL t) w) := by
  induction t with
  | void => intro _ _ el w h he; obtain rfl : el = none := he; exact ⟨rsize_void _ w, ralign_void _ w⟩
  | int m b c => intro _ _ el w h he; obtain rfl : el = none := he; exact ⟨rsize_int _ m b c w, ralign_int _ m b c w⟩
  | ptr t ih => intro _ _ el w h he; exact ⟨rsize_ptr _ t el w, ralign_ptr _ t el w⟩
  | arr t m ih =>
    intro ok hr el w h he
    have hz := sizeM_range k SZ hs t ok.2.2
    exact ⟨rsize_arr lb N lc la RN RV G CT CC TY EL t m ok.1 ok.2.1 _ hz.1 hz.2 (fun el w h1 h2 => (ih ok.2.2 hr el w h1 h2).1) el w h he,
      ralign_arr lb N lc la RN RV G CT CC TY EL t m _ (fun el w h1 h2 => (ih ok.2.2 hr el w h1 h2).2) el w h he⟩
  | st j =>
    intro _ hr el w h he
    obtain rfl : el = none := he
    by_cases hj : 0 ≤ j ∧ j < k
    · obtain ⟨i, rfl⟩ : ∃ i : Nat, j = i := ⟨j.toNat, by omega⟩
      rw [show sizeM k SZ (.st (i : Int)) = SZ i from by unfold sizeM; rw [if_pos hj]; rfl, show alignM k AL (.st (i : Int)) = AL i from by unfold alignM; rw [if_pos hj]; rfl]
      exact hst i (by omega) w h
    · have hr' : j < 0 ∨ j < k ∨ (N : Int) ≤ j := hr
      rw [show sizeM k SZ (.st j) = 0 from by unfold sizeM; rw [if_neg hj], show alignM k AL (.st j) = 1 from by unfold alignM; rw [if_neg hj]]
      exact ⟨rsize_st_out N lc la hN j (by omega) w, ralign_st_out N lc la hN j (by omega) w⟩

/-- End and At of struct k, whose fields name structs below k alone. -/
theorem ref_end (hN : N ≤ 1000000) (k : Nat) (hk : k < N) (hc : CT k ≤ 1000) (SZ AL : Nat → Int) (hs : ∀ j, j < k → 0 ≤ SZ j ∧ SZ j ≤ 1099511627776) (ha : ∀ j, j < k → 1 ≤ AL j ∧ AL j ≤ 8)
    (hst : ∀ j, j < k → ∀ w : World, RTab w lb N lc la RN RV G CT CC TY EL → Calls Tryd.prog 9 #[.slice la N lc, tyV (.st j) none] w (IntRes (SZ j) w) ∧ Calls Tryd.prog 11 #[.slice la N lc, tyV (.st j) none] w (IntRes (AL j) w))
    (ok : ∀ i, i < CT k → OkT (TY k i) ∧ Ref k N (TY k i)) : ∀ i, i ≤ CT k → ∀ w : World, RTab w lb N lc la RN RV G CT CC TY EL →
    Calls Tryd.prog 29 #[.slice la N lc, .int .i64 k, .int .i64 i] w (IntRes (endT k SZ AL (TY k) i) w) ∧ (i < CT k → Calls Tryd.prog 38 #[.slice la N lc, .int .i64 k, .int .i64 i] w (IntRes (offT k SZ AL (TY k) i) w)) := by
  intro i
  have hat : ∀ i, i < CT k → (∀ w : World, RTab w lb N lc la RN RV G CT CC TY EL → Calls Tryd.prog 29 #[.slice la N lc, .int .i64 k, .int .i64 i] w (IntRes (endT k SZ AL (TY k) i) w)) → ∀ w : World, RTab w lb N lc la RN RV G CT CC TY EL → Calls Tryd.prog 38 #[.slice la N lc, .int .i64 k, .int .i64 i] w (IntRes (offT k SZ AL (TY k) i) w) := by
    intro i hi h w hw
    have h1 := endT_nonneg k SZ AL (TY k) hs ha i (fun j hj => (ok j (by omega)).1)
    have h2 := endT_le k SZ AL (TY k) hs ha i (fun j hj => (ok j (by omega)).1)
    have h3 := alignM_range k AL ha (TY k i) (ok i hi).1
    exact rat_any lb N lc la RN RV G CT CC TY EL hN k i hk hi hc _ _ h1 (by omega) h3.1 h3.2 h (fun w hw => (ref_ty lb N lc la RN RV G CT CC TY EL hN k (by omega) SZ AL hs ha hst (TY k i) (ok i hi).1 (ok i hi).2 (EL k i) w hw (hw.t k hk i hi).2).2) w hw
  induction i with
  | zero =>
    intro _ w h
    exact ⟨rend_zero _ _ w, fun hi => hat 0 hi (fun w _ => rend_zero _ _ w) w h⟩
  | succ i ih =>
    intro hi w h
    have hend : ∀ w : World, RTab w lb N lc la RN RV G CT CC TY EL → Calls Tryd.prog 29 #[.slice la N lc, .int .i64 k, .int .i64 ((i + 1 : Nat) : Int)] w (IntRes (endT k SZ AL (TY k) (i + 1)) w) := by
      intro w h
      have h1 := endT_nonneg k SZ AL (TY k) hs ha i (fun j hj => (ok j (by omega)).1)
      have h2 := endT_le k SZ AL (TY k) hs ha i (fun j hj => (ok j (by omega)).1)
      have h3 := alignM_range k AL ha (TY k i) (ok i (by omega)).1
      have h4 : endT k SZ AL (TY k) i ≤ offT k SZ AL (TY k) i ∧ offT k SZ AL (TY k) i < endT k SZ AL (TY k) i + alignM k AL (TY k i) := upM_ge (endT k SZ AL (TY k) i) _ h3.1
      have h5 := sizeM_range k SZ hs (TY k i) (ok i (by omega)).1
      exact rend_succ lb N lc la RN RV G CT CC TY EL hN k i hk (by omega) hc _ _ (by omega) (by omega) h5.1 h5.2 (fun w hw => (ih (by omega) w hw).2 (by omega)) (fun w hw => (ref_ty lb N lc la RN RV G CT CC TY EL hN k (by omega) SZ AL hs ha hst (TY k i) (ok i (by omega)).1 (ok i (by omega)).2 (EL k i) w hw (hw.t k hk i (by omega)).2).1) w h
    exact ⟨hend w h, fun hi => hat (i + 1) hi hend w h⟩

/-- Size and Align of the structs that are laid out. -/
theorem ref_st (hN : N ≤ 1000000) (n : Nat) (hn : n ≤ N) (NM : Nat → Nat → ByteArray) (SZ AL : Nat → Int) (hl : LayM n CT NM TY SZ AL) : ∀ k, k < n → ∀ w : World, RTab w lb N lc la RN RV G CT CC TY EL →
    Calls Tryd.prog 9 #[.slice la N lc, tyV (.st k) none] w (IntRes (SZ k) w) ∧ Calls Tryd.prog 11 #[.slice la N lc, tyV (.st k) none] w (IntRes (AL k) w) := by
  intro k
  induction k using Nat.strongRecOn with
  | ind k ih =>
    intro hk w hw
    have ha : ∀ j, j < k → 1 ≤ AL j ∧ AL j ≤ 8 := fun j hj => (hl.range j (by omega)).1
    have hs : ∀ j, j < k → 0 ≤ SZ j ∧ SZ j ≤ 1099511627776 := fun j hj => ⟨(hl.range j (by omega)).2.1, by have := (hl.range j (by omega)).2.2; omega⟩
    have hc := hl.c k hk
    have ok : ∀ i, i < CT k → OkT (TY k i) ∧ Ref k N (TY k i) := fun i hi => ⟨hl.ok k hk i hi, ref_of_size k N SZ _ (hl.ok k hk i hi) ((hl.r k hk).s i hi)⟩
    have hty := ref_ty lb N lc la RN RV G CT CC TY EL hN k (by omega) SZ AL hs ha (fun j hj => ih j hj (by omega))
    have hal : ∀ w : World, RTab w lb N lc la RN RV G CT CC TY EL → Calls Tryd.prog 11 #[.slice la N lc, tyV (.st k) none] w (IntRes (AL k) w) := by
      intro w hw
      rw [hl.al k hk, ← maxTo_alT]
      exact ralign_st lb N lc la RN RV G CT CC TY EL hN k (by omega) (by omega) _ (fun i hi => alignM_range k AL ha (TY k i) (ok i hi).1) (fun i hi w hw => (hty (TY k i) (ok i hi).1 (ok i hi).2 (EL k i) w hw (hw.t k (by omega) i hi).2).2) w hw
    refine ⟨?_, hal w hw⟩
    have h1 := endT_nonneg k SZ AL (TY k) hs ha (CT k) (fun j hj => (ok j (by omega)).1)
    have h2 := endT_le k SZ AL (TY k) hs ha (CT k) (fun j hj => (ok j (by omega)).1)
    have h3 := hl.range k hk
    rw [hl.sz k hk, ← hl.al k hk]
    exact rsize_st lb N lc la RN RV G CT CC TY EL hN k (by omega) (by omega) _ _ h1 (by omega) h3.1.1 h3.1.2 (fun w hw => (ref_end lb N lc la RN RV G CT CC TY EL hN k (by omega) (by omega) SZ AL hs ha (fun j hj => ih j hj (by omega)) ok (CT k) (Nat.le_refl _) w hw).1) hal w hw
end
end Go.Proofs.YtoajcggiccfaiaaDoor
