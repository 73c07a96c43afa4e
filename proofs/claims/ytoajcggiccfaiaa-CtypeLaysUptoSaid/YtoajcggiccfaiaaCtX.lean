import Derived.Test.YtoajcggiccfaiaaCtW
import Derived.Test.YtoajcggiccfaiaaCtQ
import Derived.Test.YtoajcggiccfaiaaCtF
namespace Go.Proofs.Ytoajcggiccfaiaa
open Go Go.RowKit

theorem sameT_refl : ∀ t : Ty, sameT t t = true := by
  intro t
  induction t with
  | void => rfl
  | int n a b => simp [sameT]
  | ptr t ih => exact ih
  | arr t n ih => simp [sameT, ih]
  | st k => simp [sameT]
theorem kind_le (t : Ty) : t.kind ≠ 5 := by cases t <;> simp [Ty.kind]

set_option maxHeartbeats 1000000 in
theorem same_fn_ty (p r : Nat) (t : Ty) (el : Option Addr) (w : World) : Calls Try.prog 12 #[fnV p r, tyV t el] w (BoolRes false w) := by
  have hk : ((5 : Int) == t.kind) = false := by have := kind_le t; simpa using this.symm
  have hk2 : ((5 : Int) != t.kind) = true := by rw [bne, hk]; rfl
  unfold fnV tyV
  go_enter Try.func12, Try.ntmps12
  go_wp2_with fail
  go_ret
  exact ⟨rfl, ((Below.refl _ _).alloc (Nat.le_refl _) _).alloc (by simp) _⟩

theorem Steps.below {w w' : World} {a : Option Addr} {len : Nat} (h : Steps w a len) (hl : 0 < len → ∀ x, a = some x → x.block < w.heap.size) (hb : Below w.heap.size w w') : Steps w' a len := by
  rcases h with h | ⟨b, off, rfl, h⟩
  · exact .inl h
  · refine .inr ⟨b, off, rfl, fun i hi => ?_⟩
    obtain ⟨p, q, h1, h2⟩ := h i hi
    have hlt := hl (by omega) _ rfl
    exact ⟨p, q, by rw [hb.cell (by exact hlt)]; exact h1, by rw [hb.cell (by exact hlt)]; exact h2⟩

/-- A function's box. -/
structure FnBox (w : World) (b p r : Nat) : Prop where
  c0 : w.cell? ⟨b, 0, none⟩ = some (.int .i64 5)
  c1 : w.cell? ⟨b, 1, none⟩ = some (.int .i64 0)
  c2 : w.cell? ⟨b, 2, none⟩ = some (.bool false)
  c3 : w.cell? ⟨b, 3, none⟩ = some (.bool false)
  c4 : w.cell? ⟨b, 4, none⟩ = some (.pointer none)
  c5 : w.cell? ⟨b, 5, none⟩ = some (.int .i64 0)
  c6 : w.cell? ⟨b, 6, none⟩ = some (.int .i64 0)
  c7 : w.cell? ⟨b, 7, none⟩ = some (.slice (some ⟨p, 0, none⟩) 2 2)
  c8 : w.cell? ⟨b, 8, none⟩ = some (.pointer (some ⟨r, 0, none⟩))
theorem FnBox.below {w w' : World} {b p r lim : Nat} (h : FnBox w b p r) (hb : Below lim w w') (hl : b < lim) : FnBox w' b p r := by
  obtain ⟨h0, h1, h2, h3, h4, h5, h6, h7, h8⟩ := h
  constructor <;> (rw [hb.cell (by exact hl)]; assumption)

set_option maxHeartbeats 4000000 in
set_option maxRecDepth 100000 in
theorem ctypeSame_any (n m : Int) (a b : Option Addr) (la ca lb cb : Nat) (hla : la ≤ 9223372036854775807) (hlb : lb ≤ 9223372036854775807) (w : World) (hsa : Steps w a la) (hsb : Steps w b lb)
    (hba : 0 < la → ∀ x, a = some x → x.block < w.heap.size) (hbb : 0 < lb → ∀ x, b = some x → x.block < w.heap.size) :
    Calls Try.prog 5 #[.agg #[.int .i64 n, .slice a la ca], .agg #[.int .i64 m, .slice b lb cb]] w (BoolRes true w) := by
  have HSA := Lib.hid hsa
  have HSB := Lib.hid hsb
  have HBA := Lib.hid hba
  have HBB := Lib.hid hbb
  have HLA := Lib.hid hla
  have HLB := Lib.hid hlb
  clear hsa hsb hba hbb hla hlb
  go_enter Try.func5, Try.ntmps5
  go_wp2_with fail
  refine (fit_any _).mono ?_
  rintro e w1 ⟨rfl, hb1⟩
  have HB1 := Lib.hid ((((Below.refl _ _).alloc (Nat.le_refl _) _).alloc (by simp) _ : Below w.heap.size w _).trans (hb1.mono (by simp; omega)))
  have a0 : w1.cell? ⟨w.heap.size, 0, none⟩ = some (.int .i64 n) := by rw [hb1.cell (p := ⟨w.heap.size, 0, none⟩) (by simp; omega)]; simp
  have a1 : w1.cell? ⟨w.heap.size, 1, none⟩ = some (.slice a la ca) := by rw [hb1.cell (p := ⟨w.heap.size, 1, none⟩) (by simp; omega)]; simp
  have b0 : w1.cell? ⟨w.heap.size + 1, 0, none⟩ = some (.int .i64 m) := by rw [hb1.cell (p := ⟨w.heap.size + 1, 0, none⟩) (by simp)]; simp
  have b1 : w1.cell? ⟨w.heap.size + 1, 1, none⟩ = some (.slice b lb cb) := by rw [hb1.cell (p := ⟨w.heap.size + 1, 1, none⟩) (by simp)]; simp
  have hz1 : w.heap.size + 1 < w1.heap.size := by have := hb1.size; simp at this; omega
  clear hb1
  go_wp2_with fail
  refine (type_any n a la ca HLA.out _ (HSA.out.below HBA.out HB1.out) (fun h0 x hx => Nat.lt_of_lt_of_le (HBA.out h0 x hx) HB1.out.size)).mono ?_
  rintro e w2 ⟨t, el, ok, rfl, het, hb2⟩
  have HB2 := Lib.hid (HB1.out.trans (hb2.mono HB1.out.size))
  have HET := Lib.hid het
  have b02 : w2.cell? ⟨w.heap.size + 1, 0, none⟩ = some (.int .i64 m) := by rw [hb2.cell (p := ⟨w.heap.size + 1, 0, none⟩) hz1]; exact b0
  have b12 : w2.cell? ⟨w.heap.size + 1, 1, none⟩ = some (.slice b lb cb) := by rw [hb2.cell (p := ⟨w.heap.size + 1, 1, none⟩) hz1]; exact b1
  have hz2 : w.heap.size + 1 < w2.heap.size := by have := hb2.size; omega
  clear hb2 het a0 a1 b0 b1
  unfold tyV
  go_wp2_with fail
  have hbx : Below w2.heap.size w2 (w2.alloc (.cells #[.int .i64 t.kind, .int .i64 t.size, .bool t.sg, .bool t.sc, .pointer el, .int .i64 t.len, .int .i64 t.num, .slice none 0 0, .pointer none] 38)) := (Below.refl _ _).alloc (Nat.le_refl _) _
  have HB2b := Lib.hid (HB2.out.trans (hbx.mono HB2.out.size))
  have hcx := cells9_alloc w2 t el 38
  have hetx := (HET.out.below hbx (Nat.le_refl _))
  refine (type_any m b lb cb HLB.out _ (HSB.out.below HBB.out HB2b.out) (fun h0 x hx => Nat.lt_of_lt_of_le (HBB.out h0 x hx) HB2b.out.size)).mono ?_
  rintro e w3 ⟨u, ul, ok2, rfl, heu, hb3⟩
  have HB3 := Lib.hid (HB2b.out.trans (hb3.mono HB2b.out.size))
  have HCX := Lib.hid (hcx.below hb3 (by simp))
  have HETX := Lib.hid ((hetx.below hb3 (by simp)).mono (Nat.zero_le _) (Nat.le_refl _))
  have HEU := Lib.hid (heu.mono (Nat.zero_le _) (Nat.le_refl _))
  have hz3 : w2.heap.size < w3.heap.size := by have := hb3.size; simp at this; omega
  have hz30 : w.heap.size ≤ w3.heap.size := HB3.out.size
  clear hb3 hbx hcx hetx heu b02 b12
  unfold tyV
  cases ok with
  | false =>
    go_wp2_with fail
    go_ret
    exact ⟨rfl, HB3.out.alloc hz30 _⟩
  | true =>
    cases ok2 with
    | false =>
      go_wp2_with fail
      go_ret
      exact ⟨rfl, HB3.out.alloc hz30 _⟩
    | true =>
      obtain ⟨x0, x1, x2, x3, x4, x5, x6, x7, x8⟩ := HCX.out
      simp only [Nat.zero_add] at x0 x1 x2 x3 x4 x5 x6 x7 x8
      have g1 : w2.heap.size ≠ w3.heap.size + 1 := by omega
      have l1 : w2.heap.size < w3.heap.size + 1 := by omega
      have g2 : w2.heap.size ≠ w3.heap.size + 1 + 1 := by omega
      have l2 : w2.heap.size < w3.heap.size + 1 + 1 := by omega
      have g3 : w2.heap.size ≠ w3.heap.size + 1 + 1 + 1 := by omega
      have l3 : w2.heap.size < w3.heap.size + 1 + 1 + 1 := by omega
      have g4 : w2.heap.size ≠ w3.heap.size + 1 + 1 + 1 + 1 := by omega
      have l4 : w2.heap.size < w3.heap.size + 1 + 1 + 1 + 1 := by omega
      have g0 : w2.heap.size ≠ w3.heap.size := by omega
      go_wp2_with fail
      obtain ⟨W, hW⟩ : ∃ W, W = (((((w3.alloc (.cells #[.int .i64 u.kind, .int .i64 u.size, .bool u.sg, .bool u.sc, .pointer ul, .int .i64 u.len, .int .i64 u.num, .slice none 0 0, .pointer none] 38)).alloc (.cells #[.int .i64 u.kind, .int .i64 u.size, .bool u.sg, .bool u.sc, .pointer ul, .int .i64 u.len, .int .i64 u.num, .slice none 0 0, .pointer none, .int .i64 t.kind, .int .i64 t.size, .bool t.sg, .bool t.sc, .pointer el, .int .i64 t.len, .int .i64 t.num, .slice none 0 0, .pointer none] 38)).alloc (.cells #[.int .i64 5, .int .i64 0, .bool false, .bool false, .pointer none, .int .i64 0, .int .i64 0, .slice (some ⟨w3.heap.size + 1, 0, none⟩) 2 2, .pointer (some ⟨w2.heap.size, 0, none⟩)] 38)).alloc (.cells #[.int .i64 t.kind, .int .i64 t.size, .bool t.sg, .bool t.sc, .pointer el, .int .i64 t.len, .int .i64 t.num, .slice none 0 0, .pointer none, .int .i64 u.kind, .int .i64 u.size, .bool u.sg, .bool u.sc, .pointer ul, .int .i64 u.len, .int .i64 u.num, .slice none 0 0, .pointer none] 38)).alloc (.cells #[.int .i64 5, .int .i64 0, .bool false, .bool false, .pointer none, .int .i64 0, .int .i64 0, .slice (some ⟨w3.heap.size + 1 + 1 + 1, 0, none⟩) 2 2, .pointer (some ⟨w3.heap.size, 0, none⟩)] 38)) := ⟨_, rfl⟩
      have hbW : Below w3.heap.size w3 W := by
        rw [hW]
        ((repeat (first | (with_reducible exact Below.refl _ _) | (with_reducible apply Below.alloc))) <;> (simp; try omega))
      have kY : Cells9 W w3.heap.size 0 u ul := by rw [hW]; constructor <;> (first | (simp; done) | (go_simp; done) | (simp [go_sem]; done))
      have kP0 : Cells9 W (w3.heap.size + 1) 0 u ul := by rw [hW]; constructor <;> (first | (simp; done) | (go_simp; done) | (simp [go_sem]; done))
      have kP9 : Cells9 W (w3.heap.size + 1) 9 t el := by rw [hW]; constructor <;> (first | (simp; done) | (go_simp; done) | (simp [go_sem]; done))
      have kF : FnBox W (w3.heap.size + 1 + 1) (w3.heap.size + 1) w2.heap.size := by rw [hW]; constructor <;> (first | (simp; done) | (go_simp; done) | (simp [go_sem]; done))
      have kQ0 : Cells9 W (w3.heap.size + 1 + 1 + 1) 0 t el := by rw [hW]; constructor <;> (first | (simp; done) | (go_simp; done) | (simp [go_sem]; done))
      have kQ9 : Cells9 W (w3.heap.size + 1 + 1 + 1) 9 u ul := by rw [hW]; constructor <;> (first | (simp; done) | (go_simp; done) | (simp [go_sem]; done))
      have kG : FnBox W (w3.heap.size + 1 + 1 + 1 + 1) (w3.heap.size + 1 + 1 + 1) w3.heap.size := by rw [hW]; constructor <;> (first | (simp; done) | (go_simp; done) | (simp [go_sem]; done))
      have hsW : W.heap.size = w3.heap.size + 5 := by rw [hW]; simp
      have kX : Cells9 W w2.heap.size 0 t el := HCX.out.below hbW hz3
      have kEX : ElAt W 0 w3.heap.size t el := (HETX.out.below hbW (by omega)).mono (Nat.le_refl _) (by omega)
      have kEY : ElAt W 0 w3.heap.size u ul := HEU.out.below hbW (Nat.le_refl _)
      rw [← hW]
      have HKX := Lib.hid kX
      have HKY := Lib.hid kY
      have HKF := Lib.hid kF
      have HKG := Lib.hid kG
      have HSW := Lib.hid hsW
      have HBW := Lib.hid (HB3.out.trans (hbW.mono hz30))
      have HFF := Lib.hid (show Fun9 W (w3.heap.size + 1) w2.heap.size w3.heap.size u t t ul el el from ⟨⟨kP0, kP9, kEY, kEX, by omega, by omega⟩, kX, kEX, by omega⟩)
      have HGG := Lib.hid (show Fun9 W (w3.heap.size + 1 + 1 + 1) w3.heap.size w3.heap.size t u u el ul ul from ⟨⟨kQ0, kQ9, kEX, kEY, by omega, by omega⟩, kY, kEY, by omega⟩)
      have HEX := Lib.hid (show ∀ w', Below W.heap.size W w' → ElAt w' 0 w'.heap.size t el from fun w' hb => (kEX.below hb (by omega)).mono (Nat.le_refl _) (by have := hb.size; omega))
      have HEY := Lib.hid (show ∀ w', Below W.heap.size W w' → ElAt w' 0 w'.heap.size u ul from fun w' hb => (kEY.below hb (by omega)).mono (Nat.le_refl _) (by have := hb.size; omega))
      obtain ⟨bs, hbs⟩ : ∃ bs, sameT t u = bs := ⟨_, rfl⟩
      obtain ⟨bf, hbf⟩ : ∃ bf, ((sameT u t && sameT t u) && sameT t u) = bf := ⟨_, rfl⟩
      obtain ⟨bc, hbc⟩ : ∃ bc, sameT (secT t) (secT u) = bc := ⟨_, rfl⟩
      have C1 := Lib.hid (show ∀ w', Below W.heap.size W w' → Calls Try.prog 12 #[.agg #[.int .i64 t.kind, .int .i64 t.size, .bool t.sg, .bool t.sc, .pointer el, .int .i64 t.len, .int .i64 t.num, .slice none 0 0, .pointer none], .agg #[.int .i64 t.kind, .int .i64 t.size, .bool t.sg, .bool t.sc, .pointer el, .int .i64 t.len, .int .i64 t.num, .slice none 0 0, .pointer none]] w' (fun e w2' => e = .returned (.bool true) ∧ Below w'.heap.size w' w2') from fun w' hb => by
        have h := same_any t t el el w' (HEX.out w' hb) (HEX.out w' hb)
        rw [sameT_refl] at h
        exact h)
      have C2 := Lib.hid (show ∀ w', Below W.heap.size W w' → Calls Try.prog 12 #[.agg #[.int .i64 t.kind, .int .i64 t.size, .bool t.sg, .bool t.sc, .pointer el, .int .i64 t.len, .int .i64 t.num, .slice none 0 0, .pointer none], .agg #[.int .i64 u.kind, .int .i64 u.size, .bool u.sg, .bool u.sc, .pointer ul, .int .i64 u.len, .int .i64 u.num, .slice none 0 0, .pointer none]] w' (fun e w2' => e = .returned (.bool bs) ∧ Below w'.heap.size w' w2') from fun w' hb => by
        have h := same_any t u el ul w' (HEX.out w' hb) (HEY.out w' hb)
        rw [hbs] at h
        exact h)
      have C3 := Lib.hid (show ∀ w', Below W.heap.size W w' → Calls Try.prog 20 #[.agg #[.int .i64 t.kind, .int .i64 t.size, .bool t.sg, .bool t.sc, .pointer el, .int .i64 t.len, .int .i64 t.num, .slice none 0 0, .pointer none], .agg #[.int .i64 u.kind, .int .i64 u.size, .bool u.sg, .bool u.sc, .pointer ul, .int .i64 u.len, .int .i64 u.num, .slice none 0 0, .pointer none]] w' (fun e w2' => e = .returned (.bool bs) ∧ Below w'.heap.size w' w2') from fun w' hb => by
        have h := rsame_any t u el ul w' (HEX.out w' hb) (HEY.out w' hb)
        rw [hbs] at h
        exact h)
      have C4 := Lib.hid (show ∀ w', Below W.heap.size W w' → Calls Try.prog 12 #[.agg #[.int .i64 5, .int .i64 0, .bool false, .bool false, .pointer none, .int .i64 0, .int .i64 0, .slice (some ⟨w3.heap.size + 1, 0, none⟩) 2 2, .pointer (some ⟨w2.heap.size, 0, none⟩)], .agg #[.int .i64 5, .int .i64 0, .bool false, .bool false, .pointer none, .int .i64 0, .int .i64 0, .slice (some ⟨w3.heap.size + 1, 0, none⟩) 2 2, .pointer (some ⟨w2.heap.size, 0, none⟩)]] w' (fun e w2' => e = .returned (.bool true) ∧ Below w'.heap.size w' w2') from fun w' hb => by
        have h := same_fun _ _ _ _ _ _ _ _ _ _ _ _ _ _ _ _ _ w' (HFF.out.below hb) (HFF.out.below hb)
        rw [sameT_refl, sameT_refl, Bool.and_self, Bool.and_self] at h
        exact h)
      have C5 := Lib.hid (show ∀ w', Below W.heap.size W w' → Calls Try.prog 12 #[.agg #[.int .i64 5, .int .i64 0, .bool false, .bool false, .pointer none, .int .i64 0, .int .i64 0, .slice (some ⟨w3.heap.size + 1, 0, none⟩) 2 2, .pointer (some ⟨w2.heap.size, 0, none⟩)], .agg #[.int .i64 5, .int .i64 0, .bool false, .bool false, .pointer none, .int .i64 0, .int .i64 0, .slice (some ⟨w3.heap.size + 1 + 1 + 1, 0, none⟩) 2 2, .pointer (some ⟨w3.heap.size, 0, none⟩)]] w' (fun e w2' => e = .returned (.bool bf) ∧ Below w'.heap.size w' w2') from fun w' hb => by
        have h := same_fun _ _ _ _ _ _ _ _ _ _ _ _ _ _ _ _ _ w' (HFF.out.below hb) (HGG.out.below hb)
        rw [hbf] at h
        exact h)
      have C6 := Lib.hid (show ∀ w', Below W.heap.size W w' → Calls Try.prog 20 #[.agg #[.int .i64 5, .int .i64 0, .bool false, .bool false, .pointer none, .int .i64 0, .int .i64 0, .slice (some ⟨w3.heap.size + 1, 0, none⟩) 2 2, .pointer (some ⟨w2.heap.size, 0, none⟩)], .agg #[.int .i64 5, .int .i64 0, .bool false, .bool false, .pointer none, .int .i64 0, .int .i64 0, .slice (some ⟨w3.heap.size + 1 + 1 + 1, 0, none⟩) 2 2, .pointer (some ⟨w3.heap.size, 0, none⟩)]] w' (fun e w2' => e = .returned (.bool bf) ∧ Below w'.heap.size w' w2') from fun w' hb => by
        have h := rsame_fun _ _ _ _ _ _ _ _ _ _ _ _ _ _ _ _ _ w' (HFF.out.below hb) (HGG.out.below hb)
        rw [hbf] at h
        exact h)
      have C7 := Lib.hid (show ∀ w', Calls Try.prog 12 #[.agg #[.int .i64 5, .int .i64 0, .bool false, .bool false, .pointer none, .int .i64 0, .int .i64 0, .slice (some ⟨w3.heap.size + 1, 0, none⟩) 2 2, .pointer (some ⟨w2.heap.size, 0, none⟩)], .agg #[.int .i64 t.kind, .int .i64 t.size, .bool t.sg, .bool t.sc, .pointer el, .int .i64 t.len, .int .i64 t.num, .slice none 0 0, .pointer none]] w' (fun e w2' => e = .returned (.bool false) ∧ Below w'.heap.size w' w2') from fun w' => same_fn_ty _ _ t el w')
      have C8 := Lib.hid (show ∀ w', Below W.heap.size W w' → Calls Try.prog 19 #[.agg #[.int .i64 t.kind, .int .i64 t.size, .bool t.sg, .bool t.sc, .pointer el, .int .i64 t.len, .int .i64 t.num, .slice none 0 0, .pointer none]] w' (TyRes (secT t) w') from fun w' hb => secret_any t el w' (HEX.out w' hb))
      have C9 := Lib.hid (show ∀ w', Below W.heap.size W w' → Calls Try.prog 19 #[.agg #[.int .i64 u.kind, .int .i64 u.size, .bool u.sg, .bool u.sc, .pointer ul, .int .i64 u.len, .int .i64 u.num, .slice none 0 0, .pointer none]] w' (TyRes (secT u) w') from fun w' hb => secret_any u ul w' (HEY.out w' hb))
      have C10 := Lib.hid (show ∀ s1 s2 w', ElAt w' 0 w'.heap.size (secT t) s1 → ElAt w' 0 w'.heap.size (secT u) s2 → Calls Try.prog 12 #[tyV (secT t) s1, tyV (secT u) s2] w' (fun e w2' => e = .returned (.bool bc) ∧ Below w'.heap.size w' w2') from fun s1 s2 w' h1 h2 => by
        have h := same_any (secT t) (secT u) s1 s2 w' h1 h2
        rw [hbc] at h
        exact h)
      have C13 := Lib.hid (show ∀ s1 s2 w', ElAt w' 0 w'.heap.size (secT t) s1 → ElAt w' 0 w'.heap.size (secT u) s2 → Calls Try.prog 20 #[tyV (secT t) s1, tyV (secT u) s2] w' (fun e w2' => e = .returned (.bool bc) ∧ Below w'.heap.size w' w2') from fun s1 s2 w' h1 h2 => by
        have h := rsame_any (secT t) (secT u) s1 s2 w' h1 h2
        rw [hbc] at h
        exact h)
      clear hW hbW kX kY kF kG kP0 kP9 kQ0 kQ9 kEX kEY hsW x0 x1 x2 x3 x4 x5 x6 x7 x8 hbs hbf hbc HFF HGG HEX HEY HCX HETX HEU HB2 HB2b HB3 HET HSA HSB HBA HBB HLA HLB HB1
      obtain ⟨xk0_0, xk0_1, xk0_2, xk0_3, xk0_4, xk0_5, xk0_6, xk0_7, xk0_8⟩ := HKX.out
      obtain ⟨yk0_0, yk0_1, yk0_2, yk0_3, yk0_4, yk0_5, yk0_6, yk0_7, yk0_8⟩ := HKY.out
      obtain ⟨fk0_0, fk0_1, fk0_2, fk0_3, fk0_4, fk0_5, fk0_6, fk0_7, fk0_8⟩ := HKF.out
      obtain ⟨gk0_0, gk0_1, gk0_2, gk0_3, gk0_4, gk0_5, gk0_6, gk0_7, gk0_8⟩ := HKG.out
      simp only [Nat.zero_add] at xk0_1 xk0_2 xk0_3 xk0_4 xk0_5 xk0_6 xk0_7 xk0_8 yk0_1 yk0_2 yk0_3 yk0_4 yk0_5 yk0_6 yk0_7 yk0_8
      have hX0 : w2.heap.size < W.heap.size := by have := HSW.out; omega
      have hY0 : w3.heap.size < W.heap.size := by have := HSW.out; omega
      have hF0 : w3.heap.size + 1 + 1 < W.heap.size := by have := HSW.out; omega
      have hG0 : w3.heap.size + 1 + 1 + 1 + 1 < W.heap.size := by have := HSW.out; omega
      go_region_held3 (fun w' => w'.cell? ⟨w2.heap.size, 0, none⟩ = some (.int .i64 t.kind) ∧ w'.cell? ⟨w2.heap.size, 1, none⟩ = some (.int .i64 t.size) ∧ w'.cell? ⟨w2.heap.size, 2, none⟩ = some (.bool t.sg) ∧ w'.cell? ⟨w2.heap.size, 3, none⟩ = some (.bool t.sc) ∧ w'.cell? ⟨w2.heap.size, 4, none⟩ = some (.pointer el) ∧ w'.cell? ⟨w2.heap.size, 5, none⟩ = some (.int .i64 t.len) ∧ w'.cell? ⟨w2.heap.size, 6, none⟩ = some (.int .i64 t.num) ∧ w'.cell? ⟨w2.heap.size, 7, none⟩ = some (.slice none 0 0) ∧ w'.cell? ⟨w2.heap.size, 8, none⟩ = some (.pointer none) ∧ w'.cell? ⟨w3.heap.size, 0, none⟩ = some (.int .i64 u.kind) ∧ w'.cell? ⟨w3.heap.size, 1, none⟩ = some (.int .i64 u.size) ∧ w'.cell? ⟨w3.heap.size, 2, none⟩ = some (.bool u.sg) ∧ w'.cell? ⟨w3.heap.size, 3, none⟩ = some (.bool u.sc) ∧ w'.cell? ⟨w3.heap.size, 4, none⟩ = some (.pointer ul) ∧ w'.cell? ⟨w3.heap.size, 5, none⟩ = some (.int .i64 u.len) ∧ w'.cell? ⟨w3.heap.size, 6, none⟩ = some (.int .i64 u.num) ∧ w'.cell? ⟨w3.heap.size, 7, none⟩ = some (.slice none 0 0) ∧ w'.cell? ⟨w3.heap.size, 8, none⟩ = some (.pointer none) ∧ w'.cell? ⟨w3.heap.size + 1 + 1, 0, none⟩ = some (.int .i64 5) ∧ w'.cell? ⟨w3.heap.size + 1 + 1, 1, none⟩ = some (.int .i64 0) ∧ w'.cell? ⟨w3.heap.size + 1 + 1, 2, none⟩ = some (.bool false) ∧ w'.cell? ⟨w3.heap.size + 1 + 1, 3, none⟩ = some (.bool false) ∧ w'.cell? ⟨w3.heap.size + 1 + 1, 4, none⟩ = some (.pointer none) ∧ w'.cell? ⟨w3.heap.size + 1 + 1, 5, none⟩ = some (.int .i64 0) ∧ w'.cell? ⟨w3.heap.size + 1 + 1, 6, none⟩ = some (.int .i64 0) ∧ w'.cell? ⟨w3.heap.size + 1 + 1, 7, none⟩ = some (.slice (some ⟨w3.heap.size + 1, 0, none⟩) 2 2) ∧ w'.cell? ⟨w3.heap.size + 1 + 1, 8, none⟩ = some (.pointer (some ⟨w2.heap.size, 0, none⟩)) ∧ w'.cell? ⟨w3.heap.size + 1 + 1 + 1 + 1, 0, none⟩ = some (.int .i64 5) ∧ w'.cell? ⟨w3.heap.size + 1 + 1 + 1 + 1, 1, none⟩ = some (.int .i64 0) ∧ w'.cell? ⟨w3.heap.size + 1 + 1 + 1 + 1, 2, none⟩ = some (.bool false) ∧ w'.cell? ⟨w3.heap.size + 1 + 1 + 1 + 1, 3, none⟩ = some (.bool false) ∧ w'.cell? ⟨w3.heap.size + 1 + 1 + 1 + 1, 4, none⟩ = some (.pointer none) ∧ w'.cell? ⟨w3.heap.size + 1 + 1 + 1 + 1, 5, none⟩ = some (.int .i64 0) ∧ w'.cell? ⟨w3.heap.size + 1 + 1 + 1 + 1, 6, none⟩ = some (.int .i64 0) ∧ w'.cell? ⟨w3.heap.size + 1 + 1 + 1 + 1, 7, none⟩ = some (.slice (some ⟨w3.heap.size + 1 + 1 + 1, 0, none⟩) 2 2) ∧ w'.cell? ⟨w3.heap.size + 1 + 1 + 1 + 1, 8, none⟩ = some (.pointer (some ⟨w3.heap.size, 0, none⟩))) (go_keep)
        (first
          | (go_at_call 20
             (with_reducible refine (C13.out s11 s12 _ ((HEL11.out.below HBB12.out (Nat.le_refl _)).mono (Nat.le_refl _) HBB12.out.size) HEL12.out).mono ?_)
             rintro e w_13 ⟨rfl, hb13⟩
             have HB13 : Hid (Below W.heap.size W w_13) := Lib.hid (HB12.out.trans (hb13.mono HB12.out.size))
             obtain ⟨xk13_0, xk13_1, xk13_2, xk13_3, xk13_4, xk13_5, xk13_6, xk13_7, xk13_8⟩ := HKX.out.below HB13.out (by have := HSW.out; omega)
             obtain ⟨yk13_0, yk13_1, yk13_2, yk13_3, yk13_4, yk13_5, yk13_6, yk13_7, yk13_8⟩ := HKY.out.below HB13.out (by have := HSW.out; omega)
             obtain ⟨fk13_0, fk13_1, fk13_2, fk13_3, fk13_4, fk13_5, fk13_6, fk13_7, fk13_8⟩ := HKF.out.below HB13.out (by have := HSW.out; omega)
             obtain ⟨gk13_0, gk13_1, gk13_2, gk13_3, gk13_4, gk13_5, gk13_6, gk13_7, gk13_8⟩ := HKG.out.below HB13.out (by have := HSW.out; omega)
             simp only [Nat.zero_add] at xk13_1 xk13_2 xk13_3 xk13_4 xk13_5 xk13_6 xk13_7 xk13_8 yk13_1 yk13_2 yk13_3 yk13_4 yk13_5 yk13_6 yk13_7 yk13_8
             clear hb13 xk12_0 xk12_1 xk12_2 xk12_3 xk12_4 xk12_5 xk12_6 xk12_7 xk12_8 yk12_0 yk12_1 yk12_2 yk12_3 yk12_4 yk12_5 yk12_6 yk12_7 yk12_8 fk12_0 fk12_1 fk12_2 fk12_3 fk12_4 fk12_5 fk12_6 fk12_7 fk12_8 gk12_0 gk12_1 gk12_2 gk12_3 gk12_4 gk12_5 gk12_6 gk12_7 gk12_8)
          | (go_at_call 19
             (with_reducible refine (C9.out _ HB11.out).mono ?_)
             rintro e w_12 ⟨s12, rfl, hel12, hb12⟩
             have HB12 : Hid (Below W.heap.size W w_12) := Lib.hid (HB11.out.trans (hb12.mono HB11.out.size))
             have HBB12 := Lib.hid hb12
             have HEL12 : Hid (ElAt w_12 0 w_12.heap.size (secT u) s12) := Lib.hid (hel12.mono (Nat.zero_le _) (Nat.le_refl _))
             clear hel12
             obtain ⟨xk12_0, xk12_1, xk12_2, xk12_3, xk12_4, xk12_5, xk12_6, xk12_7, xk12_8⟩ := HKX.out.below HB12.out (by have := HSW.out; omega)
             obtain ⟨yk12_0, yk12_1, yk12_2, yk12_3, yk12_4, yk12_5, yk12_6, yk12_7, yk12_8⟩ := HKY.out.below HB12.out (by have := HSW.out; omega)
             obtain ⟨fk12_0, fk12_1, fk12_2, fk12_3, fk12_4, fk12_5, fk12_6, fk12_7, fk12_8⟩ := HKF.out.below HB12.out (by have := HSW.out; omega)
             obtain ⟨gk12_0, gk12_1, gk12_2, gk12_3, gk12_4, gk12_5, gk12_6, gk12_7, gk12_8⟩ := HKG.out.below HB12.out (by have := HSW.out; omega)
             simp only [Nat.zero_add] at xk12_1 xk12_2 xk12_3 xk12_4 xk12_5 xk12_6 xk12_7 xk12_8 yk12_1 yk12_2 yk12_3 yk12_4 yk12_5 yk12_6 yk12_7 yk12_8
             clear hb12 xk11_0 xk11_1 xk11_2 xk11_3 xk11_4 xk11_5 xk11_6 xk11_7 xk11_8 yk11_0 yk11_1 yk11_2 yk11_3 yk11_4 yk11_5 yk11_6 yk11_7 yk11_8 fk11_0 fk11_1 fk11_2 fk11_3 fk11_4 fk11_5 fk11_6 fk11_7 fk11_8 gk11_0 gk11_1 gk11_2 gk11_3 gk11_4 gk11_5 gk11_6 gk11_7 gk11_8)
          | (go_at_call 19
             (with_reducible refine (C8.out _ HB10.out).mono ?_)
             rintro e w_11 ⟨s11, rfl, hel11, hb11⟩
             have HB11 : Hid (Below W.heap.size W w_11) := Lib.hid (HB10.out.trans (hb11.mono HB10.out.size))
             have HBB11 := Lib.hid hb11
             have HEL11 : Hid (ElAt w_11 0 w_11.heap.size (secT t) s11) := Lib.hid (hel11.mono (Nat.zero_le _) (Nat.le_refl _))
             clear hel11
             obtain ⟨xk11_0, xk11_1, xk11_2, xk11_3, xk11_4, xk11_5, xk11_6, xk11_7, xk11_8⟩ := HKX.out.below HB11.out (by have := HSW.out; omega)
             obtain ⟨yk11_0, yk11_1, yk11_2, yk11_3, yk11_4, yk11_5, yk11_6, yk11_7, yk11_8⟩ := HKY.out.below HB11.out (by have := HSW.out; omega)
             obtain ⟨fk11_0, fk11_1, fk11_2, fk11_3, fk11_4, fk11_5, fk11_6, fk11_7, fk11_8⟩ := HKF.out.below HB11.out (by have := HSW.out; omega)
             obtain ⟨gk11_0, gk11_1, gk11_2, gk11_3, gk11_4, gk11_5, gk11_6, gk11_7, gk11_8⟩ := HKG.out.below HB11.out (by have := HSW.out; omega)
             simp only [Nat.zero_add] at xk11_1 xk11_2 xk11_3 xk11_4 xk11_5 xk11_6 xk11_7 xk11_8 yk11_1 yk11_2 yk11_3 yk11_4 yk11_5 yk11_6 yk11_7 yk11_8
             clear hb11 xk10_0 xk10_1 xk10_2 xk10_3 xk10_4 xk10_5 xk10_6 xk10_7 xk10_8 yk10_0 yk10_1 yk10_2 yk10_3 yk10_4 yk10_5 yk10_6 yk10_7 yk10_8 fk10_0 fk10_1 fk10_2 fk10_3 fk10_4 fk10_5 fk10_6 fk10_7 fk10_8 gk10_0 gk10_1 gk10_2 gk10_3 gk10_4 gk10_5 gk10_6 gk10_7 gk10_8)
          | (go_at_call 12
             (with_reducible refine (C10.out s8 s9 _ ((HEL8.out.below HBB9.out (Nat.le_refl _)).mono (Nat.le_refl _) HBB9.out.size) HEL9.out).mono ?_)
             rintro e w_10 ⟨rfl, hb10⟩
             have HB10 : Hid (Below W.heap.size W w_10) := Lib.hid (HB9.out.trans (hb10.mono HB9.out.size))
             obtain ⟨xk10_0, xk10_1, xk10_2, xk10_3, xk10_4, xk10_5, xk10_6, xk10_7, xk10_8⟩ := HKX.out.below HB10.out (by have := HSW.out; omega)
             obtain ⟨yk10_0, yk10_1, yk10_2, yk10_3, yk10_4, yk10_5, yk10_6, yk10_7, yk10_8⟩ := HKY.out.below HB10.out (by have := HSW.out; omega)
             obtain ⟨fk10_0, fk10_1, fk10_2, fk10_3, fk10_4, fk10_5, fk10_6, fk10_7, fk10_8⟩ := HKF.out.below HB10.out (by have := HSW.out; omega)
             obtain ⟨gk10_0, gk10_1, gk10_2, gk10_3, gk10_4, gk10_5, gk10_6, gk10_7, gk10_8⟩ := HKG.out.below HB10.out (by have := HSW.out; omega)
             simp only [Nat.zero_add] at xk10_1 xk10_2 xk10_3 xk10_4 xk10_5 xk10_6 xk10_7 xk10_8 yk10_1 yk10_2 yk10_3 yk10_4 yk10_5 yk10_6 yk10_7 yk10_8
             clear hb10 xk9_0 xk9_1 xk9_2 xk9_3 xk9_4 xk9_5 xk9_6 xk9_7 xk9_8 yk9_0 yk9_1 yk9_2 yk9_3 yk9_4 yk9_5 yk9_6 yk9_7 yk9_8 fk9_0 fk9_1 fk9_2 fk9_3 fk9_4 fk9_5 fk9_6 fk9_7 fk9_8 gk9_0 gk9_1 gk9_2 gk9_3 gk9_4 gk9_5 gk9_6 gk9_7 gk9_8)
          | (go_at_call 19
             (with_reducible refine (C9.out _ HB8.out).mono ?_)
             rintro e w_9 ⟨s9, rfl, hel9, hb9⟩
             have HB9 : Hid (Below W.heap.size W w_9) := Lib.hid (HB8.out.trans (hb9.mono HB8.out.size))
             have HBB9 := Lib.hid hb9
             have HEL9 : Hid (ElAt w_9 0 w_9.heap.size (secT u) s9) := Lib.hid (hel9.mono (Nat.zero_le _) (Nat.le_refl _))
             clear hel9
             obtain ⟨xk9_0, xk9_1, xk9_2, xk9_3, xk9_4, xk9_5, xk9_6, xk9_7, xk9_8⟩ := HKX.out.below HB9.out (by have := HSW.out; omega)
             obtain ⟨yk9_0, yk9_1, yk9_2, yk9_3, yk9_4, yk9_5, yk9_6, yk9_7, yk9_8⟩ := HKY.out.below HB9.out (by have := HSW.out; omega)
             obtain ⟨fk9_0, fk9_1, fk9_2, fk9_3, fk9_4, fk9_5, fk9_6, fk9_7, fk9_8⟩ := HKF.out.below HB9.out (by have := HSW.out; omega)
             obtain ⟨gk9_0, gk9_1, gk9_2, gk9_3, gk9_4, gk9_5, gk9_6, gk9_7, gk9_8⟩ := HKG.out.below HB9.out (by have := HSW.out; omega)
             simp only [Nat.zero_add] at xk9_1 xk9_2 xk9_3 xk9_4 xk9_5 xk9_6 xk9_7 xk9_8 yk9_1 yk9_2 yk9_3 yk9_4 yk9_5 yk9_6 yk9_7 yk9_8
             clear hb9 xk8_0 xk8_1 xk8_2 xk8_3 xk8_4 xk8_5 xk8_6 xk8_7 xk8_8 yk8_0 yk8_1 yk8_2 yk8_3 yk8_4 yk8_5 yk8_6 yk8_7 yk8_8 fk8_0 fk8_1 fk8_2 fk8_3 fk8_4 fk8_5 fk8_6 fk8_7 fk8_8 gk8_0 gk8_1 gk8_2 gk8_3 gk8_4 gk8_5 gk8_6 gk8_7 gk8_8)
          | (go_at_call 19
             (with_reducible refine (C8.out _ HB7.out).mono ?_)
             rintro e w_8 ⟨s8, rfl, hel8, hb8⟩
             have HB8 : Hid (Below W.heap.size W w_8) := Lib.hid (HB7.out.trans (hb8.mono HB7.out.size))
             have HBB8 := Lib.hid hb8
             have HEL8 : Hid (ElAt w_8 0 w_8.heap.size (secT t) s8) := Lib.hid (hel8.mono (Nat.zero_le _) (Nat.le_refl _))
             clear hel8
             obtain ⟨xk8_0, xk8_1, xk8_2, xk8_3, xk8_4, xk8_5, xk8_6, xk8_7, xk8_8⟩ := HKX.out.below HB8.out (by have := HSW.out; omega)
             obtain ⟨yk8_0, yk8_1, yk8_2, yk8_3, yk8_4, yk8_5, yk8_6, yk8_7, yk8_8⟩ := HKY.out.below HB8.out (by have := HSW.out; omega)
             obtain ⟨fk8_0, fk8_1, fk8_2, fk8_3, fk8_4, fk8_5, fk8_6, fk8_7, fk8_8⟩ := HKF.out.below HB8.out (by have := HSW.out; omega)
             obtain ⟨gk8_0, gk8_1, gk8_2, gk8_3, gk8_4, gk8_5, gk8_6, gk8_7, gk8_8⟩ := HKG.out.below HB8.out (by have := HSW.out; omega)
             simp only [Nat.zero_add] at xk8_1 xk8_2 xk8_3 xk8_4 xk8_5 xk8_6 xk8_7 xk8_8 yk8_1 yk8_2 yk8_3 yk8_4 yk8_5 yk8_6 yk8_7 yk8_8
             clear hb8 xk7_0 xk7_1 xk7_2 xk7_3 xk7_4 xk7_5 xk7_6 xk7_7 xk7_8 yk7_0 yk7_1 yk7_2 yk7_3 yk7_4 yk7_5 yk7_6 yk7_7 yk7_8 fk7_0 fk7_1 fk7_2 fk7_3 fk7_4 fk7_5 fk7_6 fk7_7 fk7_8 gk7_0 gk7_1 gk7_2 gk7_3 gk7_4 gk7_5 gk7_6 gk7_7 gk7_8)
          | (go_at_call 12
             have _ := HB6
             (with_reducible refine (C7.out _).mono ?_)
             rintro e w_7 ⟨rfl, hb7⟩
             have HB7 : Hid (Below W.heap.size W w_7) := Lib.hid (HB6.out.trans (hb7.mono HB6.out.size))
             obtain ⟨xk7_0, xk7_1, xk7_2, xk7_3, xk7_4, xk7_5, xk7_6, xk7_7, xk7_8⟩ := HKX.out.below HB7.out (by have := HSW.out; omega)
             obtain ⟨yk7_0, yk7_1, yk7_2, yk7_3, yk7_4, yk7_5, yk7_6, yk7_7, yk7_8⟩ := HKY.out.below HB7.out (by have := HSW.out; omega)
             obtain ⟨fk7_0, fk7_1, fk7_2, fk7_3, fk7_4, fk7_5, fk7_6, fk7_7, fk7_8⟩ := HKF.out.below HB7.out (by have := HSW.out; omega)
             obtain ⟨gk7_0, gk7_1, gk7_2, gk7_3, gk7_4, gk7_5, gk7_6, gk7_7, gk7_8⟩ := HKG.out.below HB7.out (by have := HSW.out; omega)
             simp only [Nat.zero_add] at xk7_1 xk7_2 xk7_3 xk7_4 xk7_5 xk7_6 xk7_7 xk7_8 yk7_1 yk7_2 yk7_3 yk7_4 yk7_5 yk7_6 yk7_7 yk7_8
             clear hb7 xk6_0 xk6_1 xk6_2 xk6_3 xk6_4 xk6_5 xk6_6 xk6_7 xk6_8 yk6_0 yk6_1 yk6_2 yk6_3 yk6_4 yk6_5 yk6_6 yk6_7 yk6_8 fk6_0 fk6_1 fk6_2 fk6_3 fk6_4 fk6_5 fk6_6 fk6_7 fk6_8 gk6_0 gk6_1 gk6_2 gk6_3 gk6_4 gk6_5 gk6_6 gk6_7 gk6_8)
          | (go_at_call 20
             (with_reducible refine (C6.out _ HB5.out).mono ?_)
             rintro e w_6 ⟨rfl, hb6⟩
             have HB6 : Hid (Below W.heap.size W w_6) := Lib.hid (HB5.out.trans (hb6.mono HB5.out.size))
             obtain ⟨xk6_0, xk6_1, xk6_2, xk6_3, xk6_4, xk6_5, xk6_6, xk6_7, xk6_8⟩ := HKX.out.below HB6.out (by have := HSW.out; omega)
             obtain ⟨yk6_0, yk6_1, yk6_2, yk6_3, yk6_4, yk6_5, yk6_6, yk6_7, yk6_8⟩ := HKY.out.below HB6.out (by have := HSW.out; omega)
             obtain ⟨fk6_0, fk6_1, fk6_2, fk6_3, fk6_4, fk6_5, fk6_6, fk6_7, fk6_8⟩ := HKF.out.below HB6.out (by have := HSW.out; omega)
             obtain ⟨gk6_0, gk6_1, gk6_2, gk6_3, gk6_4, gk6_5, gk6_6, gk6_7, gk6_8⟩ := HKG.out.below HB6.out (by have := HSW.out; omega)
             simp only [Nat.zero_add] at xk6_1 xk6_2 xk6_3 xk6_4 xk6_5 xk6_6 xk6_7 xk6_8 yk6_1 yk6_2 yk6_3 yk6_4 yk6_5 yk6_6 yk6_7 yk6_8
             clear hb6 xk5_0 xk5_1 xk5_2 xk5_3 xk5_4 xk5_5 xk5_6 xk5_7 xk5_8 yk5_0 yk5_1 yk5_2 yk5_3 yk5_4 yk5_5 yk5_6 yk5_7 yk5_8 fk5_0 fk5_1 fk5_2 fk5_3 fk5_4 fk5_5 fk5_6 fk5_7 fk5_8 gk5_0 gk5_1 gk5_2 gk5_3 gk5_4 gk5_5 gk5_6 gk5_7 gk5_8)
          | (go_at_call 12
             (with_reducible refine (C5.out _ HB4.out).mono ?_)
             rintro e w_5 ⟨rfl, hb5⟩
             have HB5 : Hid (Below W.heap.size W w_5) := Lib.hid (HB4.out.trans (hb5.mono HB4.out.size))
             obtain ⟨xk5_0, xk5_1, xk5_2, xk5_3, xk5_4, xk5_5, xk5_6, xk5_7, xk5_8⟩ := HKX.out.below HB5.out (by have := HSW.out; omega)
             obtain ⟨yk5_0, yk5_1, yk5_2, yk5_3, yk5_4, yk5_5, yk5_6, yk5_7, yk5_8⟩ := HKY.out.below HB5.out (by have := HSW.out; omega)
             obtain ⟨fk5_0, fk5_1, fk5_2, fk5_3, fk5_4, fk5_5, fk5_6, fk5_7, fk5_8⟩ := HKF.out.below HB5.out (by have := HSW.out; omega)
             obtain ⟨gk5_0, gk5_1, gk5_2, gk5_3, gk5_4, gk5_5, gk5_6, gk5_7, gk5_8⟩ := HKG.out.below HB5.out (by have := HSW.out; omega)
             simp only [Nat.zero_add] at xk5_1 xk5_2 xk5_3 xk5_4 xk5_5 xk5_6 xk5_7 xk5_8 yk5_1 yk5_2 yk5_3 yk5_4 yk5_5 yk5_6 yk5_7 yk5_8
             clear hb5 xk4_0 xk4_1 xk4_2 xk4_3 xk4_4 xk4_5 xk4_6 xk4_7 xk4_8 yk4_0 yk4_1 yk4_2 yk4_3 yk4_4 yk4_5 yk4_6 yk4_7 yk4_8 fk4_0 fk4_1 fk4_2 fk4_3 fk4_4 fk4_5 fk4_6 fk4_7 fk4_8 gk4_0 gk4_1 gk4_2 gk4_3 gk4_4 gk4_5 gk4_6 gk4_7 gk4_8)
          | (go_at_call 12
             (with_reducible refine (C4.out _ HB3.out).mono ?_)
             rintro e w_4 ⟨rfl, hb4⟩
             have HB4 : Hid (Below W.heap.size W w_4) := Lib.hid (HB3.out.trans (hb4.mono HB3.out.size))
             obtain ⟨xk4_0, xk4_1, xk4_2, xk4_3, xk4_4, xk4_5, xk4_6, xk4_7, xk4_8⟩ := HKX.out.below HB4.out (by have := HSW.out; omega)
             obtain ⟨yk4_0, yk4_1, yk4_2, yk4_3, yk4_4, yk4_5, yk4_6, yk4_7, yk4_8⟩ := HKY.out.below HB4.out (by have := HSW.out; omega)
             obtain ⟨fk4_0, fk4_1, fk4_2, fk4_3, fk4_4, fk4_5, fk4_6, fk4_7, fk4_8⟩ := HKF.out.below HB4.out (by have := HSW.out; omega)
             obtain ⟨gk4_0, gk4_1, gk4_2, gk4_3, gk4_4, gk4_5, gk4_6, gk4_7, gk4_8⟩ := HKG.out.below HB4.out (by have := HSW.out; omega)
             simp only [Nat.zero_add] at xk4_1 xk4_2 xk4_3 xk4_4 xk4_5 xk4_6 xk4_7 xk4_8 yk4_1 yk4_2 yk4_3 yk4_4 yk4_5 yk4_6 yk4_7 yk4_8
             clear hb4 xk3_0 xk3_1 xk3_2 xk3_3 xk3_4 xk3_5 xk3_6 xk3_7 xk3_8 yk3_0 yk3_1 yk3_2 yk3_3 yk3_4 yk3_5 yk3_6 yk3_7 yk3_8 fk3_0 fk3_1 fk3_2 fk3_3 fk3_4 fk3_5 fk3_6 fk3_7 fk3_8 gk3_0 gk3_1 gk3_2 gk3_3 gk3_4 gk3_5 gk3_6 gk3_7 gk3_8)
          | (go_at_call 20
             (with_reducible refine (C3.out _ HB2.out).mono ?_)
             rintro e w_3 ⟨rfl, hb3⟩
             have HB3 : Hid (Below W.heap.size W w_3) := Lib.hid (HB2.out.trans (hb3.mono HB2.out.size))
             obtain ⟨xk3_0, xk3_1, xk3_2, xk3_3, xk3_4, xk3_5, xk3_6, xk3_7, xk3_8⟩ := HKX.out.below HB3.out (by have := HSW.out; omega)
             obtain ⟨yk3_0, yk3_1, yk3_2, yk3_3, yk3_4, yk3_5, yk3_6, yk3_7, yk3_8⟩ := HKY.out.below HB3.out (by have := HSW.out; omega)
             obtain ⟨fk3_0, fk3_1, fk3_2, fk3_3, fk3_4, fk3_5, fk3_6, fk3_7, fk3_8⟩ := HKF.out.below HB3.out (by have := HSW.out; omega)
             obtain ⟨gk3_0, gk3_1, gk3_2, gk3_3, gk3_4, gk3_5, gk3_6, gk3_7, gk3_8⟩ := HKG.out.below HB3.out (by have := HSW.out; omega)
             simp only [Nat.zero_add] at xk3_1 xk3_2 xk3_3 xk3_4 xk3_5 xk3_6 xk3_7 xk3_8 yk3_1 yk3_2 yk3_3 yk3_4 yk3_5 yk3_6 yk3_7 yk3_8
             clear hb3 xk2_0 xk2_1 xk2_2 xk2_3 xk2_4 xk2_5 xk2_6 xk2_7 xk2_8 yk2_0 yk2_1 yk2_2 yk2_3 yk2_4 yk2_5 yk2_6 yk2_7 yk2_8 fk2_0 fk2_1 fk2_2 fk2_3 fk2_4 fk2_5 fk2_6 fk2_7 fk2_8 gk2_0 gk2_1 gk2_2 gk2_3 gk2_4 gk2_5 gk2_6 gk2_7 gk2_8)
          | (go_at_call 12
             (with_reducible refine (C2.out _ HB1.out).mono ?_)
             rintro e w_2 ⟨rfl, hb2⟩
             have HB2 : Hid (Below W.heap.size W w_2) := Lib.hid (HB1.out.trans (hb2.mono HB1.out.size))
             obtain ⟨xk2_0, xk2_1, xk2_2, xk2_3, xk2_4, xk2_5, xk2_6, xk2_7, xk2_8⟩ := HKX.out.below HB2.out (by have := HSW.out; omega)
             obtain ⟨yk2_0, yk2_1, yk2_2, yk2_3, yk2_4, yk2_5, yk2_6, yk2_7, yk2_8⟩ := HKY.out.below HB2.out (by have := HSW.out; omega)
             obtain ⟨fk2_0, fk2_1, fk2_2, fk2_3, fk2_4, fk2_5, fk2_6, fk2_7, fk2_8⟩ := HKF.out.below HB2.out (by have := HSW.out; omega)
             obtain ⟨gk2_0, gk2_1, gk2_2, gk2_3, gk2_4, gk2_5, gk2_6, gk2_7, gk2_8⟩ := HKG.out.below HB2.out (by have := HSW.out; omega)
             simp only [Nat.zero_add] at xk2_1 xk2_2 xk2_3 xk2_4 xk2_5 xk2_6 xk2_7 xk2_8 yk2_1 yk2_2 yk2_3 yk2_4 yk2_5 yk2_6 yk2_7 yk2_8
             clear hb2 xk1_0 xk1_1 xk1_2 xk1_3 xk1_4 xk1_5 xk1_6 xk1_7 xk1_8 yk1_0 yk1_1 yk1_2 yk1_3 yk1_4 yk1_5 yk1_6 yk1_7 yk1_8 fk1_0 fk1_1 fk1_2 fk1_3 fk1_4 fk1_5 fk1_6 fk1_7 fk1_8 gk1_0 gk1_1 gk1_2 gk1_3 gk1_4 gk1_5 gk1_6 gk1_7 gk1_8)
          | (go_at_call 12
             (with_reducible refine (C1.out _ (Below.refl _ _).drew).mono ?_)
             rintro e w_1 ⟨rfl, hb1⟩
             have HB1 : Hid (Below W.heap.size W w_1) := Lib.hid ((Below.refl _ _).drew.trans hb1)
             obtain ⟨xk1_0, xk1_1, xk1_2, xk1_3, xk1_4, xk1_5, xk1_6, xk1_7, xk1_8⟩ := HKX.out.below HB1.out (by have := HSW.out; omega)
             obtain ⟨yk1_0, yk1_1, yk1_2, yk1_3, yk1_4, yk1_5, yk1_6, yk1_7, yk1_8⟩ := HKY.out.below HB1.out (by have := HSW.out; omega)
             obtain ⟨fk1_0, fk1_1, fk1_2, fk1_3, fk1_4, fk1_5, fk1_6, fk1_7, fk1_8⟩ := HKF.out.below HB1.out (by have := HSW.out; omega)
             obtain ⟨gk1_0, gk1_1, gk1_2, gk1_3, gk1_4, gk1_5, gk1_6, gk1_7, gk1_8⟩ := HKG.out.below HB1.out (by have := HSW.out; omega)
             simp only [Nat.zero_add] at xk1_1 xk1_2 xk1_3 xk1_4 xk1_5 xk1_6 xk1_7 xk1_8 yk1_1 yk1_2 yk1_3 yk1_4 yk1_5 yk1_6 yk1_7 yk1_8
             clear hb1 xk0_0 xk0_1 xk0_2 xk0_3 xk0_4 xk0_5 xk0_6 xk0_7 xk0_8 yk0_0 yk0_1 yk0_2 yk0_3 yk0_4 yk0_5 yk0_6 yk0_7 yk0_8 fk0_0 fk0_1 fk0_2 fk0_3 fk0_4 fk0_5 fk0_6 fk0_7 fk0_8 gk0_0 gk0_1 gk0_2 gk0_3 gk0_4 gk0_5 gk0_6 gk0_7 gk0_8))
      go_wp2
      go_ret
      exact ⟨rfl, HBW.out.trans (HB13.out.mono (by have := HSW.out; omega))⟩
end Go.Proofs.Ytoajcggiccfaiaa
