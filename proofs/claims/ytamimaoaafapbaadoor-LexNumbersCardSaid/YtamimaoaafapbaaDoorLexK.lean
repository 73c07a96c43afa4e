import Derived.Test.YtamimaoaafapbaaDoorLexM
namespace Go.Proofs.YtamimaoaafapbaaDoor
open Go

/-- Digits of a base. -/
def dlist (b : Nat) (ds : List UInt8) : Prop := ∀ c ∈ ds, baseB b c.toNat = true

theorem runLen_app (p : UInt8 → Bool) (a r : List UInt8) (ha : ∀ c ∈ a, p c = true) (hr : runLen p r = 0) : runLen p (a ++ r) = a.length := by
  unfold runLen at *
  induction a with
  | nil => simpa using hr
  | cons c t ih =>
    rw [List.cons_append, List.takeWhile_cons, if_pos (ha c (by simp))]
    simp only [List.length_cons]
    rw [ih (fun d hd => ha d (by simp [hd]))]

theorem drop_app (a r : List UInt8) : (a ++ r).drop a.length = r := by simp
theorem take_app (a r : List UInt8) : (a ++ r).take a.length = a := by simp

/-- The tail of a number: no suffix, u, l, ul. -/
def tailOf (u l : Bool) : List UInt8 := (if u then [117] else []) ++ (if l then [108] else [])

theorem isAt_app (a r : List UInt8) (c : UInt8) : isAt (a ++ r) a.length c = isAt r 0 c := by
  unfold isAt
  cases r with
  | nil => simp
  | cons d t => simp [List.getD]

theorem getD_app (a r : List UInt8) : (a ++ r).getD a.length 0 = r.getD 0 0 := by
  rw [List.getD, List.getD, List.getElem?_append_right (Nat.le_refl _), Nat.sub_self]

/-- What stands behind a number: nothing, or a semicolon. -/
def restOk (r : List UInt8) : Prop := r = [] ∨ ∃ t, r = 59 :: t

theorem numT_of (l pre ds r : List UInt8) (u lo : Bool) (b v : Nat) (hl : l = pre ++ (ds ++ (tailOf u lo ++ r)))
    (hb : b = 10 ∨ b = 16) (hfrom : numFrom l = pre.length) (hbase : numBase l = b) (hne : ds ≠ []) (hd : dlist b ds) (hr : restOk r) (hv : valFrom b 0 ds = v) (hv2 : v < 18446744073709551616) :
    numberT l = some { kind := 3, text := pre ++ (ds ++ tailOf u lo), at_ := 0, value := v, uns := u, long := lo } := by
  have hlen : 0 < ds.length := List.length_pos_iff.2 hne
  have hrun0 : runLen (fun c => baseB b c.toNat) (tailOf u lo ++ r) = 0 := by
    rcases hb with rfl | rfl <;> rcases hr with rfl | ⟨t, rfl⟩ <;> cases u <;> cases lo <;> simp [tailOf, runLen, baseB, hexB, digB]
  have hend : numEnd l = pre.length + ds.length := by
    unfold numEnd
    rw [hfrom, hbase, hl, drop_app, runLen_app _ _ _ hd hrun0]
  have hval : numVal l = some v := by
    unfold numVal
    rw [hend, hfrom, if_neg (by omega), hbase, hl, drop_app, show pre.length + ds.length - pre.length = ds.length from by omega, take_app, hv, if_pos hv2]
  have hl2 : l = (pre ++ ds) ++ (tailOf u lo ++ r) := by rw [hl]; simp
  have hpd : pre.length + ds.length = (pre ++ ds).length := by simp
  have hu : isAt l (numEnd l) 117 = u := by
    rw [hend, hpd, hl2, isAt_app]
    rcases hr with rfl | ⟨t, rfl⟩ <;> cases u <;> cases lo <;> rfl
  have he1 : numEnd1 l = pre.length + ds.length + (if u then 1 else 0) := by
    unfold numEnd1; rw [hu, hend]
  have hl3 : l = (pre ++ ds ++ (if u then [117] else [])) ++ ((if lo then [108] else []) ++ r) := by rw [hl]; simp [tailOf]
  have hp3 : pre.length + ds.length + (if u then 1 else 0) = (pre ++ ds ++ (if u then [117] else [])).length := by cases u <;> simp <;> omega
  have hlo : isAt l (numEnd1 l) 108 = lo := by
    rw [he1, hp3, hl3, isAt_app]
    rcases hr with rfl | ⟨t, rfl⟩ <;> cases lo <;> rfl
  have he2 : numEnd2 l = pre.length + ds.length + (if u then 1 else 0) + (if lo then 1 else 0) := by
    unfold numEnd2; rw [hlo, he1]
  have hl4 : l = (pre ++ (ds ++ tailOf u lo)) ++ r := by rw [hl]; simp
  have hp4 : pre.length + ds.length + (if u then 1 else 0) + (if lo then 1 else 0) = (pre ++ (ds ++ tailOf u lo)).length := by cases u <;> cases lo <;> simp [tailOf] <;> omega
  have hbad : numBad l = false := by
    unfold numBad
    rw [he2, hp4]
    rcases hr with rfl | ⟨t, rfl⟩
    · rw [hl4]; simp
    · rw [hl4, getD_app]; simp [partB, letB, digB]
  unfold numberT
  rw [hval, hbad, hu, hlo, he2, hp4]
  simp only
  rw [hl4, take_app]
  simp

theorem blanks_no (l : List UInt8) (h : blank l = 0) : blanks l = 0 := by
  unfold blanks blanksF; rw [if_pos h]

theorem pre2 (a b c : UInt8) (l : List UInt8) (h : c ≠ a) : Lib.hasPrefix (c :: l) [a, b] = false := by
  cases l with
  | nil => simp [Lib.hasPrefix, List.isPrefixOf]
  | cons e t => simp [Lib.hasPrefix, List.isPrefixOf, Ne.symm h]

theorem blank_dig (c : UInt8) (l : List UInt8) (h : c ≠ 47) (hw : wsB c = false) : blank (c :: l) = 0 := by
  unfold blank
  rw [pre2 47 47 c l h, pre2 47 42 c l h]
  simp [hw]

theorem valFrom_cons (b : Nat) (l : List UInt8) : ∀ acc, valFrom b acc l = acc * b ^ l.length + valFrom b 0 l := by
  induction l with
  | nil => intro acc; simp [valFrom]
  | cons c t ih =>
    intro acc
    simp only [valFrom, List.length_cons]
    rw [ih (acc * b + hexV c), ih (0 * b + hexV c), Nat.pow_succ]
    simp only [Nat.zero_mul, Nat.zero_add, Nat.add_mul]
    rw [Nat.mul_assoc, Nat.mul_comm b, Nat.add_assoc]

/-- A number's digits so far: behind m there stand the digits ds. -/
structure Dig (b n m : Nat) (ds : List UInt8) : Prop where
  all : dlist b ds
  val : n = m * b ^ ds.length + valFrom b 0 ds
  some : m ≠ 0 ∨ ds = []

theorem Dig.start (b n : Nat) : Dig b n n [] := ⟨fun _ h => by simp at h, by simp [valFrom], .inr rfl⟩
theorem Dig.len {b n m : Nat} {ds : List UInt8} (h : Dig b n m ds) (hb : 10 ≤ b) (hn : n < 18446744073709551616) : ds.length ≤ 19 := by
  rcases h.some with hm | rfl
  · rcases Nat.lt_or_ge 19 ds.length with hl | hl
    · exfalso
      have h1 : 10 ^ 20 ≤ b ^ ds.length := Nat.le_trans (Nat.pow_le_pow_left hb 20) (Nat.pow_le_pow_right (by omega) hl)
      have h2 : 1 * b ^ ds.length ≤ m * b ^ ds.length := Nat.mul_le_mul_right _ (by omega)
      have := h.val
      have h3 : (10 : Nat) ^ 20 = 100000000000000000000 := by decide
      omega
    · exact hl
  · simp
theorem Dig.step {b n m : Nat} {ds : List UInt8} (h : Dig b n m ds) (c : UInt8) (hc : baseB b c.toNat = true) (hv : hexV c = m % b) (hm : m / b ≠ 0) : Dig b n (m / b) (c :: ds) := by
  refine ⟨fun d hd => ?_, ?_, .inl hm⟩
  · rcases List.mem_cons.1 hd with rfl | hd
    · exact hc
    · exact h.all d hd
  · have h1 : valFrom b 0 (c :: ds) = (m % b) * b ^ ds.length + valFrom b 0 ds := by
      simp only [valFrom]; rw [valFrom_cons, hv]; simp
    rw [h1, List.length_cons, Nat.pow_succ, ← Nat.add_assoc, Nat.mul_comm (b ^ ds.length), ← Nat.mul_assoc, ← Nat.add_mul, Nat.div_add_mod' m b]
    exact h.val
theorem Dig.last {b n m : Nat} {ds : List UInt8} (h : Dig b n m ds) (c : UInt8) (hc : baseB b c.toNat = true) (hv : hexV c = m % b) (hm : m / b = 0) : dlist b (c :: ds) ∧ valFrom b 0 (c :: ds) = n := by
  refine ⟨fun d hd => ?_, ?_⟩
  · rcases List.mem_cons.1 hd with rfl | hd
    · exact hc
    · exact h.all d hd
  · have h1 : valFrom b 0 (c :: ds) = (m % b) * b ^ ds.length + valFrom b 0 ds := by
      simp only [valFrom]; rw [valFrom_cons, hv]; simp
    have h2 := Nat.div_add_mod' m b
    rw [hm, Nat.zero_mul, Nat.zero_add] at h2
    rw [h1, h2]
    exact h.val.symm

theorem dig_head (c : UInt8) (h : baseB 10 c.toNat = true) : letB c.toNat = false ∧ digB c.toNat = true ∧ c ≠ 47 ∧ wsB c = false := by
  have h1 : digB c.toNat = true := by simpa [baseB] using h
  have h2 : 48 ≤ c.toNat ∧ c.toNat ≤ 57 := by simp [digB] at h1; omega
  refine ⟨by simp [letB]; omega, h1, fun h => by subst h; simp at h2, ?_⟩
  have hne : ∀ k : UInt8, k.toNat < 48 → (c == k) = false := fun k hk => by
    rw [beq_eq_false_iff_ne]; rintro rfl; omega
  simp [wsB, hne 32 (by decide), hne 9 (by decide), hne 10 (by decide), hne 13 (by decide)]

theorem firstT_dig (c : UInt8) (l : List UInt8) (h : baseB 10 c.toNat = true) : firstT (c :: l) = numberT (c :: l) := by
  obtain ⟨h1, h2, _⟩ := dig_head c h
  unfold firstT
  simp only [List.getD_cons_zero, h1, h2]
  simp

/-- The law's text, and its tokens. -/
theorem numbers_scan (dec hex : List UInt8) (u lo : Bool) (n : Nat) (hn : n < 18446744073709551616) (hd : dlist 10 dec) (hh : dlist 16 hex) (hd0 : dec ≠ []) (hh0 : hex ≠ [])
    (vd : valFrom 10 0 dec = n) (vh : valFrom 16 0 hex = n) (hl : (dec ++ (tailOf u lo ++ (59 :: ([48, 120] ++ (hex ++ (tailOf u lo ++ [])))))).length ≤ 16384) :
    ∃ a b c, scanM (dec ++ (tailOf u lo ++ (59 :: ([48, 120] ++ (hex ++ (tailOf u lo ++ [])))))) =
      .ok [{ kind := 3, text := dec ++ tailOf u lo, at_ := 0, value := n, uns := u, long := lo }, { kind := 4, text := [59], at_ := a, value := 0, uns := false, long := false }, { kind := 3, text := [48, 120] ++ (hex ++ tailOf u lo), at_ := b, value := n, uns := u, long := lo }, { kind := 0, text := [], at_ := c, value := 0, uns := false, long := false }] := by
  obtain ⟨d0, dr, rfl⟩ : ∃ d0 dr, dec = d0 :: dr := by cases dec with | nil => exact absurd rfl hd0 | cons a t => exact ⟨a, t, rfl⟩
  have hdd := hd d0 (by simp)
  obtain ⟨_, _, h47, hws⟩ := dig_head d0 hdd
  generalize hR : (59 :: ([48, 120] ++ (hex ++ (tailOf u lo ++ [])))) = R at *
  have hb0 : blanks ((d0 :: dr) ++ (tailOf u lo ++ R)) = 0 := blanks_no _ (by rw [List.cons_append]; exact blank_dig d0 _ h47 hws)
  have hf0 : Lib.hasPrefix ((d0 :: dr) ++ (tailOf u lo ++ R)) [48, 120] = false := by
    have key : ∀ x : UInt8, ∀ t, x ≠ 120 → Lib.hasPrefix (d0 :: x :: t) [48, 120] = false := by
      intro x t hx
      simp [Lib.hasPrefix, List.isPrefixOf, Ne.symm hx]
    cases dr with
    | nil => 
      rw [← hR]
      cases u <;> cases lo <;> exact key _ _ (by decide)
    | cons x t =>
      refine key x _ ?_
      have := hd x (by simp)
      rintro rfl
      simp [baseB, digB] at this
  have t1 : firstT ((d0 :: dr) ++ (tailOf u lo ++ R)) = some { kind := 3, text := [] ++ ((d0 :: dr) ++ tailOf u lo), at_ := 0, value := n, uns := u, long := lo } := by
    rw [List.cons_append, firstT_dig d0 _ hdd, ← List.cons_append]
    exact numT_of _ [] (d0 :: dr) R u lo 10 n (by simp) (.inl rfl) (by unfold numFrom; rw [hf0]; rfl) (by unfold numBase; rw [hf0]; rfl) (by simp) hd (.inr ⟨_, hR.symm⟩) vd hn
  have hx16 : Lib.hasPrefix ([48, 120] ++ (hex ++ (tailOf u lo ++ []))) [48, 120] = true := by simp [Lib.hasPrefix, List.isPrefixOf]
  have t3 : firstT ([48, 120] ++ (hex ++ (tailOf u lo ++ []))) = some { kind := 3, text := [48, 120] ++ (hex ++ tailOf u lo), at_ := 0, value := n, uns := u, long := lo } := by
    rw [show [48, 120] ++ (hex ++ (tailOf u lo ++ [])) = (48 : UInt8) :: (120 :: (hex ++ (tailOf u lo ++ []))) from rfl, firstT_dig 48 _ (by decide)]
    exact numT_of _ [48, 120] hex [] u lo 16 n rfl (.inr rfl) (if_pos hx16) (if_pos hx16) hh0 hh (.inl rfl) vh hn
  have t2 : firstT R = some { kind := 4, text := [59], at_ := 0, value := 0, uns := false, long := false } := by
    rw [← hR]
    unfold firstT
    simp only [List.getD_cons_zero]
    rw [if_neg (by decide), if_neg (by decide), if_neg (by decide), pre2 47 42 59 _ (by decide), if_neg (by decide)]
    unfold signT
    rw [show min 3 (59 :: ([48, 120] ++ (hex ++ (tailOf u lo ++ [])))).length = 3 from by simp]
    show signDown 3 (59 :: 48 :: 120 :: (hex ++ (tailOf u lo ++ []))) = _
    unfold signDown
    rw [if_neg (by rw [show List.take (2 + 1) (59 :: 48 :: 120 :: (hex ++ (tailOf u lo ++ []))) = [59, 48, 120] from rfl]; decide)]
    unfold signDown
    rw [if_neg (by rw [show List.take (1 + 1) (59 :: 48 :: 120 :: (hex ++ (tailOf u lo ++ []))) = [59, 48] from rfl]; decide)]
    unfold signDown
    rw [if_pos (by rw [show List.take (0 + 1) (59 :: 48 :: 120 :: (hex ++ (tailOf u lo ++ []))) = [59] from rfl]; decide)]
    rfl
  have b1 : blanks R = 0 := by rw [← hR]; exact blanks_no _ (blank_dig 59 _ (by decide) (by decide))
  have b2 : blanks ([48, 120] ++ (hex ++ (tailOf u lo ++ []))) = 0 := blanks_no _ (blank_dig 48 _ (by decide) (by decide))
  have b3 : blanks [] = 0 := by rfl
  have d1 : ((d0 :: dr) ++ (tailOf u lo ++ R)).drop ([] ++ ((d0 :: dr) ++ tailOf u lo)).length = R := by
    rw [List.nil_append, ← List.append_assoc, drop_app]
  have d2 : R.drop ([59] : List UInt8).length = [48, 120] ++ (hex ++ (tailOf u lo ++ [])) := by rw [← hR]; rfl
  have d3 : ([48, 120] ++ (hex ++ (tailOf u lo ++ []))).drop ([48, 120] ++ (hex ++ tailOf u lo)).length = [] := by
    rw [List.append_nil, List.drop_length]
  have nR : R ≠ [] := by rw [← hR]; simp
  have n3 : [48, 120] ++ (hex ++ (tailOf u lo ++ [])) ≠ [] := by simp
  obtain ⟨k, hk⟩ : ∃ k, ((d0 :: dr) ++ (tailOf u lo ++ R)).length + 1 = k + 4 := ⟨((d0 :: dr) ++ (tailOf u lo ++ R)).length - 3, by
    have h1 : 0 < hex.length := List.length_pos_iff.2 hh0
    have : 4 ≤ R.length := by rw [← hR]; simp; omega
    rw [List.length_append, List.length_append]; omega⟩
  unfold scanM
  rw [if_neg (by omega), hb0, hk, List.drop_zero]
  conv => enter [1, a, 1, b, 1, c, 1]; unfold scanF
  rw [if_neg (by simp), t1]
  simp only [d1, b1, List.drop_zero]
  conv => enter [1, a, 1, b, 1, c, 1]; unfold scanF
  rw [if_neg nR, t2]
  simp only [d2, b2, List.drop_zero]
  conv => enter [1, a, 1, b, 1, c, 1]; unfold scanF
  rw [if_neg n3, t3]
  simp only [d3, b3, List.drop_zero]
  conv => enter [1, a, 1, b, 1, c, 1]; unfold scanF
  rw [if_pos rfl]
  exact ⟨_, _, _, rfl⟩
end Go.Proofs.YtamimaoaafapbaaDoor
