import Derived.Test.YtdkhanjfncbfnaaOsLH
namespace Go.Proofs.Ytdkhanjfncbfnaa
open Go Go.RowKit
set_option linter.unusedVariables false
set_option linter.unusedSimpArgs false

theorem LayT.al {T : Tb} (h : LayT T) : ∀ k, k < T.n → 1 ≤ T.AL k ∧ T.AL k ≤ 8 := fun k hk => (LayM.range h k hk).1
theorem offs_of {T : Tb} (hl : LayT T) (k : Nat) (hk : k < T.n) : ∃ off sz en : Nat → Nat, Offs T k (T.SZ k).toNat off sz en := by
  have hsz : ∀ j, j < k → 0 ≤ T.SZ j ∧ T.SZ j ≤ 1099511627776 := fun j hj => LayT.sz hl j (by omega)
  have hal : ∀ j, j < k → 1 ≤ T.AL j ∧ T.AL j ≤ 8 := fun j hj => LayT.al hl j (by omega)
  have hok := hl.ok k hk
  have hro := hl.r k hk
  have hen : ∀ m, m ≤ T.CT k → 0 ≤ endT k T.SZ T.AL (T.TY k) m := fun m hm => endT_nonneg k T.SZ T.AL (T.TY k) hsz hal m (fun i hi => hok i (by omega))
  have hup : ∀ j, j < T.CT k → endT k T.SZ T.AL (T.TY k) j ≤ offT k T.SZ T.AL (T.TY k) j := fun j hj => (upM_ge _ _ (alignM_range k T.AL hal (T.TY k j) (hok j hj)).1).1
  have hss : ∀ j, j < T.CT k → 0 < sizeM k T.SZ (T.TY k j) := fun j hj => by
    have h1 := sizeM_nonneg k T.SZ hsz (T.TY k j) (hok j hj)
    have h2 := hro.s j hj
    omega
  have hst : ∀ j, j < T.CT k → endT k T.SZ T.AL (T.TY k) (j + 1) = offT k T.SZ T.AL (T.TY k) j + sizeM k T.SZ (T.TY k j) := fun j hj => rfl
  have hmon : ∀ d j, j + d = T.CT k → endT k T.SZ T.AL (T.TY k) j ≤ endT k T.SZ T.AL (T.TY k) (T.CT k) := by
    intro d
    induction d with
    | zero => intro j hj; rw [show j = T.CT k from by omega]; exact Int.le_refl _
    | succ d ih =>
      intro j hj
      have h1 := ih (j + 1) (by omega)
      have h2 := hst j (by omega)
      have h3 := hup j (by omega)
      have h4 := hss j (by omega)
      omega
  have hlast : endT k T.SZ T.AL (T.TY k) (T.CT k) ≤ T.SZ k := by
    rw [LayM.sz hl k hk]
    exact (upM_ge _ _ (alT_range k T.AL (T.TY k) (T.CT k) hal hok).1).1
  refine ⟨fun j => (offT k T.SZ T.AL (T.TY k) j).toNat, fun j => (sizeM k T.SZ (T.TY k j)).toNat, fun j => (endT k T.SZ T.AL (T.TY k) j).toNat, ?_, ?_, ?_, ?_, ?_, ?_, ?_⟩
  · intro j hj
    have h1 := hen j (by omega)
    have h2 := hup j hj
    show _ = (((offT k T.SZ T.AL (T.TY k) j).toNat : Nat) : Int)
    omega
  · intro j hj
    have h1 := hss j hj
    rw [(sizeM_more k T.n (by omega) T.SZ T.AL (T.TY k j) (hok j hj) (by omega)).1]
    show _ = (((sizeM k T.SZ (T.TY k j)).toNat : Nat) : Int)
    omega
  · intro j hj
    have h1 := hss j hj
    show 0 < (sizeM k T.SZ (T.TY k j)).toNat
    omega
  · rfl
  · intro j hj
    have h0 := hen j (by omega)
    have h1 := hss j hj
    have h2 := hup j hj
    have h3 := hst j hj
    show (endT k T.SZ T.AL (T.TY k) (j + 1)).toNat = (offT k T.SZ T.AL (T.TY k) j).toNat + (sizeM k T.SZ (T.TY k j)).toNat
    omega
  · intro j hj
    have h2 := hup j hj
    show (endT k T.SZ T.AL (T.TY k) j).toNat ≤ (offT k T.SZ T.AL (T.TY k) j).toNat
    omega
  · intro j hj
    have h1 := hmon (T.CT k - j) j (by omega)
    show (endT k T.SZ T.AL (T.TY k) j).toNat ≤ (T.SZ k).toNat
    omega
theorem timesM_small {m s N : Int} (h0 : 0 < m) (h : timesM m s = N) (hN : N ≤ 1000000) : N = m * s := by
  unfold timesM at h
  split at h
  · omega
  · exact h.symm
theorem label_any (T : Tb) (hl : LayT T) : ∀ K, K ≤ T.n → ∀ t, OkT t → sizeM K T.SZ t ≠ 0 → ∃ LF, MarkOk T t LF ∧ PaintOk T t LF := by
  intro K
  induction K using Nat.strongRecOn with
  | ind K ihK =>
    intro hK t
    have hszK : ∀ j, j < K → 0 ≤ T.SZ j ∧ T.SZ j ≤ 1099511627776 := fun j hj => LayT.sz hl j (by omega)
    induction t with
    | void => intro _ h; exact absurd rfl h
    | int k b c =>
      intro ok _
      refine ⟨fun _ => c, fun N hi g o cap el w hs hN hcap hk hg hgl hel hlb hz => ?_, fun N hi g o len cap at_ el w hs hN hlc hcap hk hg hgl hel hlb hz => ?_⟩
      · obtain rfl : el = none := hel
        exact mark_int T k b c N g o cap hs hN hcap w hgl hlb hz
      · obtain rfl : el = none := hel
        exact paint_int T k b c N g o len cap at_ hs hN hlc hcap w hgl hlb hz
    | ptr t ih =>
      intro ok _
      exact ⟨fun _ => false, fun N hi g o cap el w hs hN hcap hk hg hgl hel hlb hz => mark_ptr T el N g o cap w hgl hlb, fun N hi g o len cap at_ el w hs hN hlc hcap hk hg hgl hel hlb hz => paint_ptr T el N g o len cap at_ w hgl hlb⟩
    | arr t m ih =>
      intro ok hs0
      obtain ⟨hm0, hm1, okt⟩ := ok
      have hmne : 0 < m := by
        rcases Int.lt_or_eq_of_le hm0 with h | h
        · exact h
        · exfalso
          apply hs0
          show timesM m _ = 0
          unfold timesM
          rw [← h]
          simp
      have hst : sizeM K T.SZ t ≠ 0 := by
        intro e
        apply hs0
        show timesM m (sizeM K T.SZ t) = 0
        unfold timesM
        rw [e]
        split
        · rename_i h
          have := h.2
          have : (0 : Int) ≤ 1099511627776 / m := Int.ediv_nonneg (by omega) (by omega)
          omega
        · simp
      obtain ⟨LF, hm, hp⟩ := ih okt hst
      have e1 := (sizeM_more K T.n hK T.SZ T.AL t okt hst).1
      have hpos : 0 < sizeM T.n T.SZ t := by
        have := sizeM_nonneg K T.SZ hszK t okt
        omega
      obtain ⟨N1, hN1⟩ : ∃ N1 : Nat, sizeM T.n T.SZ t = N1 := ⟨(sizeM T.n T.SZ t).toNat, by omega⟩
      obtain ⟨M, hM⟩ : ∃ M : Nat, m = M := ⟨m.toNat, by omega⟩
      have hNm : ∀ N : Nat, N ≤ 1000000 → sizeM T.n T.SZ (.arr t m) = N → N = M * N1 := fun N hN hs => by
        have h1 := timesM_small hmne hs (by omega)
        rw [hN1, hM] at h1
        rw [← Int.natCast_mul] at h1
        exact Int.ofNat.inj h1
      refine ⟨fun i => LF (i % N1), fun N hi g o cap el w hs hN hcap hk hg hgl hel hlb hz => ?_, fun N hi g o len cap at_ el w hs hN hlc hcap hk hg hgl hel hlb hz => ?_⟩
      · obtain ⟨b, e2, rfl, ⟨hb1, hb2⟩, hb9, he2⟩ := hel
        have hn := hNm N (by omega) hs
        have := mark_arr T hl t okt LF hm M N1 N hi g o cap (by omega) hN1 (by omega) (by rw [hn, Nat.mul_comm]) hN hcap b e2 w hk hg hgl hb1 hb2 hb9 he2 hlb hz
        rw [← hM] at this
        exact this
      · obtain ⟨b, e2, rfl, ⟨hb1, hb2⟩, hb9, he2⟩ := hel
        have hn := hNm N (by omega) hs
        have := paint_arr T hl t okt LF hp M N1 N hi g o len cap at_ (by omega) hN1 (by omega) hn hN hlc hcap b e2 w hk hg hgl hb1 hb2 hb9 he2 hlb hz
        rw [← hM] at this
        exact this
    | st j =>
      intro ok hs0
      have hj : 0 ≤ j ∧ j < K := by
        by_cases h : 0 ≤ j ∧ j < K
        · exact h
        · exfalso
          apply hs0
          show (if 0 ≤ j ∧ j < (K : Int) then T.SZ j.toNat else 0) = 0
          rw [if_neg h]
      obtain ⟨k, hk⟩ : ∃ k : Nat, j = k := ⟨j.toNat, by omega⟩
      subst hk
      have hkK : k < K := by omega
      have hkn : k < T.n := by omega
      have hok := hl.ok k hkn
      have hro := hl.r k hkn
      have H : ∀ i, ∃ LF : Nat → Bool, i < T.CT k → MarkOk T (T.TY k i) LF ∧ PaintOk T (T.TY k i) LF := fun i => by
        by_cases hi : i < T.CT k
        · obtain ⟨LF, h1, h2⟩ := ihK k hkK (by omega) (T.TY k i) (hok i hi) (hro.s i hi)
          exact ⟨LF, fun _ => ⟨h1, h2⟩⟩
        · exact ⟨fun _ => false, fun h => absurd h hi⟩
      obtain ⟨LFs, hLFs⟩ := Classical.axiomOfChoice H
      obtain ⟨off, sz, en, hof⟩ := offs_of hl k hkn
      have hN' : ∀ N : Nat, sizeM T.n T.SZ (.st k) = N → (T.SZ k).toNat = N := fun N hs => by
        have h1 : (if 0 ≤ (k : Int) ∧ (k : Int) < (T.n : Int) then T.SZ (k : Int).toNat else 0) = N := hs
        rw [if_pos (by omega)] at h1
        simp at h1
        omega
      refine ⟨fieldsL off sz LFs (T.CT k), fun N hi g o cap el w hs hN hcap hk' hg hgl hel hlb hz => ?_, fun N hi g o len cap at_ el w hs hN hlc hcap hk' hg hgl hel hlb hz => ?_⟩
      · obtain rfl : el = none := hel
        have hn := hN' N hs
        rw [hn] at hof
        exact mark_st T hl k hkn off sz en LFs N hi g o cap hof hok (fun i hi' => (hLFs i hi').1) hN hcap w hk' hg hgl hlb hz
      · obtain rfl : el = none := hel
        have hn := hN' N hs
        rw [hn] at hof
        exact paint_st T hl k hkn off sz en LFs N hi g o len cap at_ hof hok (fun i hi' => (hLFs i hi').2) hN hlc hcap w hk' hg hgl hlb hz
end Go.Proofs.Ytdkhanjfncbfnaa
