import Derived.Test.YtoajcggiccfaiaaDoorCtCE
namespace Go.Proofs.YtoajcggiccfaiaaDoor
open Go Go.RowKit
set_option linter.unusedVariables false
set_option linter.unusedSimpArgs false

section
variable (lb N lc : Nat) (la : Option Addr) (RN : Nat → ByteArray) (RV : Nat → Option Addr × Nat × Nat) (G CT CC : Nat → Nat) (TY : Nat → Nat → Ty) (EL : Nat → Nat → Option Addr)

set_option maxHeartbeats 4000000 in
theorem rsize_st (hN : N ≤ 1000000) (k : Nat) (hk : k < N) (hck : CT k ≤ 1000) (E A : Int) (hE0 : 0 ≤ E) (hE1 : E ≤ 4611686018427387904) (hA0 : 1 ≤ A) (hA1 : A ≤ 8)
    (ihE : ∀ w : World, RTab w lb N lc la RN RV G CT CC TY EL → Calls Tryd.prog 29 #[.slice la N lc, .int .i64 k, .int .i64 (CT k)] w (IntRes E w))
    (ihA : ∀ w : World, RTab w lb N lc la RN RV G CT CC TY EL → Calls Tryd.prog 11 #[.slice la N lc, tyV (.st k) none] w (IntRes A w))
    (w : World) (h : RTab w lb N lc la RN RV G CT CC TY EL) :
    Calls Tryd.prog 9 #[.slice la N lc, tyV (.st k) none] w (IntRes (upM E A) w) := by
  have hla := h.a (by omega)
  have HIE := Lib.hid ihE
  have hIA := ihA
  have HT0 := Lib.hid h
  have hlb := h.l (by omega)
  subst hla
  clear ihE ihA
  rw [show tyV (.st k) none = .agg #[.int .i64 4, .int .i64 0, .bool false, .bool false, .pointer none, .int .i64 0, .int .i64 k, .slice none 0 0, .pointer none] from rfl] at hIA ⊢
  have HIA := Lib.hid hIA
  clear hIA
  obtain ⟨C, hC⟩ : ∃ C, C = CT k := ⟨_, rfl⟩
  rw [← hC] at HIE hck
  have HRK := Lib.hid (h.r k hk)
  rw [← hC] at HRK
  clear hC h
  go_enter Tryd.func9, Tryd.ntmps9
  go_upto_region 1 with fail
  generalize hW : w.alloc (.cells #[.int .i64 4, .int .i64 0, .bool false, .bool false, .pointer none, .int .i64 0, .int .i64 k, .slice none 0 0, .pointer none] 34) = W
  have hbW : Below w.heap.size w W := by rw [← hW]; exact (Below.refl _ _).alloc (Nat.le_refl _) _
  have hsW : W.heap.size = w.heap.size + 1 := by rw [← hW]; simp
  have p0 : W.cell? ⟨w.heap.size, 0, none⟩ = some (.int .i64 4) := by rw [← hW]; simp
  have p1 : W.cell? ⟨w.heap.size, 1, none⟩ = some (.int .i64 0) := by rw [← hW]; simp
  have p2 : W.cell? ⟨w.heap.size, 2, none⟩ = some (.bool false) := by rw [← hW]; simp
  have p3 : W.cell? ⟨w.heap.size, 3, none⟩ = some (.bool false) := by rw [← hW]; simp
  have p4 : W.cell? ⟨w.heap.size, 4, none⟩ = some (.pointer none) := by rw [← hW]; simp
  have p5 : W.cell? ⟨w.heap.size, 5, none⟩ = some (.int .i64 0) := by rw [← hW]; simp
  have p6 : W.cell? ⟨w.heap.size, 6, none⟩ = some (.int .i64 k) := by rw [← hW]; simp
  have p7 : W.cell? ⟨w.heap.size, 7, none⟩ = some (.slice none 0 0) := by rw [← hW]; simp
  have p8 : W.cell? ⟨w.heap.size, 8, none⟩ = some (.pointer none) := by rw [← hW]; simp
  have HBW := Lib.hid hbW
  have HSW := Lib.hid hsW
  have HT := Lib.hid (HT0.out.below hbW)
  have hrk := HRK.out.same (w' := W) (fun o => hbW.cell (p := ⟨lb, o, none⟩) hlb)
  obtain ⟨q0, q1, q2⟩ := hrk
  clear hW hbW hsW
  go_upto_region 15 with fail
  clear q0 q1 q2
  go_region_held3 (fun w' => w'.cell? ⟨w.heap.size, 0, none⟩ = some (.int .i64 4) ∧ w'.cell? ⟨w.heap.size, 1, none⟩ = some (.int .i64 0) ∧ w'.cell? ⟨w.heap.size, 2, none⟩ = some (.bool false) ∧ w'.cell? ⟨w.heap.size, 3, none⟩ = some (.bool false) ∧ w'.cell? ⟨w.heap.size, 4, none⟩ = some (.pointer none) ∧ w'.cell? ⟨w.heap.size, 5, none⟩ = some (.int .i64 0) ∧ w'.cell? ⟨w.heap.size, 6, none⟩ = some (.int .i64 k) ∧ w'.cell? ⟨w.heap.size, 7, none⟩ = some (.slice none 0 0) ∧ w'.cell? ⟨w.heap.size, 8, none⟩ = some (.pointer none)) (go_keep)
    (first
      | (go_at_call 29
         (with_reducible refine (HIE.out _ (HT.out.below (by first | (have hp := HB4.out; exact hp) | exact (Below.refl _ _).drew))).mono ?_)
         rintro e w3 ⟨rfl, hb⟩
         have HB3 : Hid (Below W.heap.size W w3) := Lib.hid (by first | (have hp := HB4.out; exact hp.trans (hb.mono hp.size)) | exact (Below.refl _ _).drew.trans hb)
         clear hb
         have p03 : w3.cell? ⟨w.heap.size, 0, none⟩ = some (.int .i64 4) := by rw [HB3.out.cell (by simp [HSW.out])]; exact p0
         have p13 : w3.cell? ⟨w.heap.size, 1, none⟩ = some (.int .i64 0) := by rw [HB3.out.cell (by simp [HSW.out])]; exact p1
         have p23 : w3.cell? ⟨w.heap.size, 2, none⟩ = some (.bool false) := by rw [HB3.out.cell (by simp [HSW.out])]; exact p2
         have p33 : w3.cell? ⟨w.heap.size, 3, none⟩ = some (.bool false) := by rw [HB3.out.cell (by simp [HSW.out])]; exact p3
         have p43 : w3.cell? ⟨w.heap.size, 4, none⟩ = some (.pointer none) := by rw [HB3.out.cell (by simp [HSW.out])]; exact p4
         have p53 : w3.cell? ⟨w.heap.size, 5, none⟩ = some (.int .i64 0) := by rw [HB3.out.cell (by simp [HSW.out])]; exact p5
         have p63 : w3.cell? ⟨w.heap.size, 6, none⟩ = some (.int .i64 k) := by rw [HB3.out.cell (by simp [HSW.out])]; exact p6
         have p73 : w3.cell? ⟨w.heap.size, 7, none⟩ = some (.slice none 0 0) := by rw [HB3.out.cell (by simp [HSW.out])]; exact p7
         have p83 : w3.cell? ⟨w.heap.size, 8, none⟩ = some (.pointer none) := by rw [HB3.out.cell (by simp [HSW.out])]; exact p8)
      | (go_at_call 11
         (with_reducible refine (HIA.out _ (HT.out.below (by first | (have hp := HB3.out; exact hp) | exact (Below.refl _ _).drew))).mono ?_)
         rintro e w4 ⟨rfl, hb⟩
         have HB4 : Hid (Below W.heap.size W w4) := Lib.hid (by first | (have hp := HB3.out; exact hp.trans (hb.mono hp.size)) | exact (Below.refl _ _).drew.trans hb)
         clear hb
         have p04 : w4.cell? ⟨w.heap.size, 0, none⟩ = some (.int .i64 4) := by rw [HB4.out.cell (by simp [HSW.out])]; exact p0
         have p14 : w4.cell? ⟨w.heap.size, 1, none⟩ = some (.int .i64 0) := by rw [HB4.out.cell (by simp [HSW.out])]; exact p1
         have p24 : w4.cell? ⟨w.heap.size, 2, none⟩ = some (.bool false) := by rw [HB4.out.cell (by simp [HSW.out])]; exact p2
         have p34 : w4.cell? ⟨w.heap.size, 3, none⟩ = some (.bool false) := by rw [HB4.out.cell (by simp [HSW.out])]; exact p3
         have p44 : w4.cell? ⟨w.heap.size, 4, none⟩ = some (.pointer none) := by rw [HB4.out.cell (by simp [HSW.out])]; exact p4
         have p54 : w4.cell? ⟨w.heap.size, 5, none⟩ = some (.int .i64 0) := by rw [HB4.out.cell (by simp [HSW.out])]; exact p5
         have p64 : w4.cell? ⟨w.heap.size, 6, none⟩ = some (.int .i64 k) := by rw [HB4.out.cell (by simp [HSW.out])]; exact p6
         have p74 : w4.cell? ⟨w.heap.size, 7, none⟩ = some (.slice none 0 0) := by rw [HB4.out.cell (by simp [HSW.out])]; exact p7
         have p84 : w4.cell? ⟨w.heap.size, 8, none⟩ = some (.pointer none) := by rw [HB4.out.cell (by simp [HSW.out])]; exact p8)
      | (go_at_call 28
         (with_reducible refine (next_any E A hE0 hE1 hA0 (by omega) _).mono ?_)
         rintro e wn ⟨rfl, rfl⟩))
  go_wp2_with fail
  go_ret
  exact ⟨rfl, HBW.out.trans (by first | (have hp := HB3.out; have hq := HB4.out; exact (by first | exact hq.mono HBW.out.size | exact hp.mono HBW.out.size)))⟩

set_option maxHeartbeats 4000000 in
theorem rend_zero (v : Value) (k : Int) (w : World) :
    Calls Tryd.prog 29 #[v, .int .i64 k, .int .i64 0] w (IntRes 0 w) := by
  go_enter Tryd.func29, Tryd.ntmps29
  go_wp2_with fail
  go_ret
  exact ⟨rfl, Below.refl _ _⟩

set_option maxHeartbeats 4000000 in
theorem rat_any (hN : N ≤ 1000000) (k i : Nat) (hk : k < N) (hi : i < CT k) (hi2 : CT k ≤ 1000) (E A : Int) (hE0 : 0 ≤ E) (hE1 : E ≤ 4611686018427387904) (hA0 : 1 ≤ A) (hA1 : A ≤ 8)
    (ih1 : ∀ w : World, RTab w lb N lc la RN RV G CT CC TY EL → Calls Tryd.prog 29 #[.slice la N lc, .int .i64 k, .int .i64 i] w (IntRes E w))
    (ih2 : ∀ w : World, RTab w lb N lc la RN RV G CT CC TY EL → Calls Tryd.prog 11 #[.slice la N lc, tyV (TY k i) (EL k i)] w (IntRes A w))
    (w : World) (h : RTab w lb N lc la RN RV G CT CC TY EL) :
    Calls Tryd.prog 38 #[.slice la N lc, .int .i64 k, .int .i64 i] w (IntRes (upM E A) w) := by
  have hla := h.a (by omega)
  have HI1 := Lib.hid ih1
  have HT := Lib.hid h
  obtain ⟨q0, q1, q2⟩ := h.r k hk
  obtain ⟨⟨c0, c1, c2, c3, c4, c5, c6, c7, c8⟩, _⟩ := h.t k hk i hi
  have hlb := h.l (by omega)
  have hlg := h.g k hk
  subst hla
  have hI2 := ih2
  unfold tyV at hI2
  have HI2 := Lib.hid hI2
  clear ih1 ih2 h hI2 q0 q1
  obtain ⟨C, hC⟩ : ∃ C, C = CT k := ⟨_, rfl⟩
  rw [← hC] at q2 hi hi2
  clear hC
  have hw1 : IntKind.i64.wrap (i : Int) = i := i64_of _ (by omega) (by omega)
  have hw2 : IntKind.i64.wrap ((i : Int) + 1 - 1) = i := by rw [show (i : Int) + 1 - 1 = i by omega]; exact hw1
  go_enter Tryd.func38, Tryd.ntmps38
  go_upto_region 1 with fail
  go_region_held3 (fun w' => w'.cell? ⟨lb, k * 3 + 2, none⟩ = some (.slice (some ⟨G k, 0, none⟩) C (CC k)) ∧ w'.cell? ⟨G k, i * 9, none⟩ = some (.int .i64 (TY k i).kind) ∧ w'.cell? ⟨G k, i * 9 + 1, none⟩ = some (.int .i64 (TY k i).size) ∧ w'.cell? ⟨G k, i * 9 + 2, none⟩ = some (.bool (TY k i).sg) ∧ w'.cell? ⟨G k, i * 9 + 3, none⟩ = some (.bool (TY k i).sc) ∧ w'.cell? ⟨G k, i * 9 + 4, none⟩ = some (.pointer (EL k i)) ∧ w'.cell? ⟨G k, i * 9 + 5, none⟩ = some (.int .i64 (TY k i).len) ∧ w'.cell? ⟨G k, i * 9 + 6, none⟩ = some (.int .i64 (TY k i).num) ∧ w'.cell? ⟨G k, i * 9 + 7, none⟩ = some (.slice none 0 0) ∧ w'.cell? ⟨G k, i * 9 + 8, none⟩ = some (.pointer none)) (go_keep)
    (first
      | (go_at_call 29
         (with_reducible refine (HI1.out _ (HT.out.below (by first | (have hp := HB4.out; exact hp) | exact (Below.refl _ _).drew))).mono ?_)
         rintro e w3 ⟨rfl, hb⟩
         have HB3 : Hid (Below w.heap.size w w3) := Lib.hid (by first | (have hp := HB4.out; exact hp.trans (hb.mono hp.size)) | exact (Below.refl _ _).drew.trans hb)
         clear hb
         have q23 : w3.cell? ⟨lb, k * 3 + 2, none⟩ = some (.slice (some ⟨G k, 0, none⟩) C (CC k)) := by rw [HB3.out.cell (by exact hlb)]; exact q2
         have c03 : w3.cell? ⟨G k, i * 9, none⟩ = some (.int .i64 (TY k i).kind) := by rw [HB3.out.cell (by exact hlg)]; exact c0
         have c13 : w3.cell? ⟨G k, i * 9 + 1, none⟩ = some (.int .i64 (TY k i).size) := by rw [HB3.out.cell (by exact hlg)]; exact c1
         have c23 : w3.cell? ⟨G k, i * 9 + 2, none⟩ = some (.bool (TY k i).sg) := by rw [HB3.out.cell (by exact hlg)]; exact c2
         have c33 : w3.cell? ⟨G k, i * 9 + 3, none⟩ = some (.bool (TY k i).sc) := by rw [HB3.out.cell (by exact hlg)]; exact c3
         have c43 : w3.cell? ⟨G k, i * 9 + 4, none⟩ = some (.pointer (EL k i)) := by rw [HB3.out.cell (by exact hlg)]; exact c4
         have c53 : w3.cell? ⟨G k, i * 9 + 5, none⟩ = some (.int .i64 (TY k i).len) := by rw [HB3.out.cell (by exact hlg)]; exact c5
         have c63 : w3.cell? ⟨G k, i * 9 + 6, none⟩ = some (.int .i64 (TY k i).num) := by rw [HB3.out.cell (by exact hlg)]; exact c6
         have c73 : w3.cell? ⟨G k, i * 9 + 7, none⟩ = some (.slice none 0 0) := by rw [HB3.out.cell (by exact hlg)]; exact c7
         have c83 : w3.cell? ⟨G k, i * 9 + 8, none⟩ = some (.pointer none) := by rw [HB3.out.cell (by exact hlg)]; exact c8)
      | (go_at_call 11
         (with_reducible refine (HI2.out _ (HT.out.below (by first | (have hp := HB3.out; exact hp) | exact (Below.refl _ _).drew))).mono ?_)
         rintro e w4 ⟨rfl, hb⟩
         have HB4 : Hid (Below w.heap.size w w4) := Lib.hid (by first | (have hp := HB3.out; exact hp.trans (hb.mono hp.size)) | exact (Below.refl _ _).drew.trans hb)
         clear hb
         have q24 : w4.cell? ⟨lb, k * 3 + 2, none⟩ = some (.slice (some ⟨G k, 0, none⟩) C (CC k)) := by rw [HB4.out.cell (by exact hlb)]; exact q2
         have c04 : w4.cell? ⟨G k, i * 9, none⟩ = some (.int .i64 (TY k i).kind) := by rw [HB4.out.cell (by exact hlg)]; exact c0
         have c14 : w4.cell? ⟨G k, i * 9 + 1, none⟩ = some (.int .i64 (TY k i).size) := by rw [HB4.out.cell (by exact hlg)]; exact c1
         have c24 : w4.cell? ⟨G k, i * 9 + 2, none⟩ = some (.bool (TY k i).sg) := by rw [HB4.out.cell (by exact hlg)]; exact c2
         have c34 : w4.cell? ⟨G k, i * 9 + 3, none⟩ = some (.bool (TY k i).sc) := by rw [HB4.out.cell (by exact hlg)]; exact c3
         have c44 : w4.cell? ⟨G k, i * 9 + 4, none⟩ = some (.pointer (EL k i)) := by rw [HB4.out.cell (by exact hlg)]; exact c4
         have c54 : w4.cell? ⟨G k, i * 9 + 5, none⟩ = some (.int .i64 (TY k i).len) := by rw [HB4.out.cell (by exact hlg)]; exact c5
         have c64 : w4.cell? ⟨G k, i * 9 + 6, none⟩ = some (.int .i64 (TY k i).num) := by rw [HB4.out.cell (by exact hlg)]; exact c6
         have c74 : w4.cell? ⟨G k, i * 9 + 7, none⟩ = some (.slice none 0 0) := by rw [HB4.out.cell (by exact hlg)]; exact c7
         have c84 : w4.cell? ⟨G k, i * 9 + 8, none⟩ = some (.pointer none) := by rw [HB4.out.cell (by exact hlg)]; exact c8)
      | (go_at_call 28
         (with_reducible refine (next_any E A hE0 hE1 hA0 (by omega) _).mono ?_)
         rintro e wn ⟨rfl, rfl⟩))
  go_wp2_with fail
  go_ret
  exact ⟨rfl, by first | (have hp := HB3.out; have hq := HB4.out; exact (by first | exact hq | exact hp))⟩

set_option maxHeartbeats 4000000 in
theorem rend_succ (hN : N ≤ 1000000) (k i : Nat) (hk : k < N) (hi : i < CT k) (hi2 : CT k ≤ 1000) (A S : Int) (hA0 : 0 ≤ A) (hA1 : A ≤ 4611686018427387904) (hS0 : 0 ≤ S) (hS1 : S ≤ 1099511627776)
    (ih1 : ∀ w : World, RTab w lb N lc la RN RV G CT CC TY EL → Calls Tryd.prog 38 #[.slice la N lc, .int .i64 k, .int .i64 i] w (IntRes A w))
    (ih2 : ∀ w : World, RTab w lb N lc la RN RV G CT CC TY EL → Calls Tryd.prog 9 #[.slice la N lc, tyV (TY k i) (EL k i)] w (IntRes S w))
    (w : World) (h : RTab w lb N lc la RN RV G CT CC TY EL) :
    Calls Tryd.prog 29 #[.slice la N lc, .int .i64 k, .int .i64 (i + 1)] w (IntRes (A + S) w) := by
  have hla := h.a (by omega)
  have HI1 := Lib.hid ih1
  have HT := Lib.hid h
  obtain ⟨q0, q1, q2⟩ := h.r k hk
  obtain ⟨⟨c0, c1, c2, c3, c4, c5, c6, c7, c8⟩, _⟩ := h.t k hk i hi
  have hlb := h.l (by omega)
  have hlg := h.g k hk
  subst hla
  have hI2 := ih2
  unfold tyV at hI2
  have HI2 := Lib.hid hI2
  clear ih1 ih2 h hI2 q0 q1
  obtain ⟨C, hC⟩ : ∃ C, C = CT k := ⟨_, rfl⟩
  rw [← hC] at q2 hi hi2
  clear hC
  have hw1 : IntKind.i64.wrap (i : Int) = i := i64_of _ (by omega) (by omega)
  have hw2 : IntKind.i64.wrap ((i : Int) + 1 - 1) = i := by rw [show (i : Int) + 1 - 1 = i by omega]; exact hw1
  have hw3 : IntKind.i64.wrap (A + S) = A + S := by rw [IntWalk.i64_left]; exact IntWalk.wrap64_in _ ⟨by omega, by omega⟩
  go_enter Tryd.func29, Tryd.ntmps29
  go_upto_region 3 with fail
  go_region_held3 (fun w' => w'.cell? ⟨lb, k * 3 + 2, none⟩ = some (.slice (some ⟨G k, 0, none⟩) C (CC k)) ∧ w'.cell? ⟨G k, i * 9, none⟩ = some (.int .i64 (TY k i).kind) ∧ w'.cell? ⟨G k, i * 9 + 1, none⟩ = some (.int .i64 (TY k i).size) ∧ w'.cell? ⟨G k, i * 9 + 2, none⟩ = some (.bool (TY k i).sg) ∧ w'.cell? ⟨G k, i * 9 + 3, none⟩ = some (.bool (TY k i).sc) ∧ w'.cell? ⟨G k, i * 9 + 4, none⟩ = some (.pointer (EL k i)) ∧ w'.cell? ⟨G k, i * 9 + 5, none⟩ = some (.int .i64 (TY k i).len) ∧ w'.cell? ⟨G k, i * 9 + 6, none⟩ = some (.int .i64 (TY k i).num) ∧ w'.cell? ⟨G k, i * 9 + 7, none⟩ = some (.slice none 0 0) ∧ w'.cell? ⟨G k, i * 9 + 8, none⟩ = some (.pointer none)) (go_keep)
    (first
      | (go_at_call 38
         (with_reducible refine (HI1.out _ (HT.out.below (by first | (have hp := HB4.out; exact hp) | exact (Below.refl _ _).drew))).mono ?_)
         rintro e w3 ⟨rfl, hb⟩
         have HB3 : Hid (Below w.heap.size w w3) := Lib.hid (by first | (have hp := HB4.out; exact hp.trans (hb.mono hp.size)) | exact (Below.refl _ _).drew.trans hb)
         clear hb
         have q23 : w3.cell? ⟨lb, k * 3 + 2, none⟩ = some (.slice (some ⟨G k, 0, none⟩) C (CC k)) := by rw [HB3.out.cell (by exact hlb)]; exact q2
         have c03 : w3.cell? ⟨G k, i * 9, none⟩ = some (.int .i64 (TY k i).kind) := by rw [HB3.out.cell (by exact hlg)]; exact c0
         have c13 : w3.cell? ⟨G k, i * 9 + 1, none⟩ = some (.int .i64 (TY k i).size) := by rw [HB3.out.cell (by exact hlg)]; exact c1
         have c23 : w3.cell? ⟨G k, i * 9 + 2, none⟩ = some (.bool (TY k i).sg) := by rw [HB3.out.cell (by exact hlg)]; exact c2
         have c33 : w3.cell? ⟨G k, i * 9 + 3, none⟩ = some (.bool (TY k i).sc) := by rw [HB3.out.cell (by exact hlg)]; exact c3
         have c43 : w3.cell? ⟨G k, i * 9 + 4, none⟩ = some (.pointer (EL k i)) := by rw [HB3.out.cell (by exact hlg)]; exact c4
         have c53 : w3.cell? ⟨G k, i * 9 + 5, none⟩ = some (.int .i64 (TY k i).len) := by rw [HB3.out.cell (by exact hlg)]; exact c5
         have c63 : w3.cell? ⟨G k, i * 9 + 6, none⟩ = some (.int .i64 (TY k i).num) := by rw [HB3.out.cell (by exact hlg)]; exact c6
         have c73 : w3.cell? ⟨G k, i * 9 + 7, none⟩ = some (.slice none 0 0) := by rw [HB3.out.cell (by exact hlg)]; exact c7
         have c83 : w3.cell? ⟨G k, i * 9 + 8, none⟩ = some (.pointer none) := by rw [HB3.out.cell (by exact hlg)]; exact c8)
      | (go_at_call 9
         (with_reducible refine (HI2.out _ (HT.out.below (by first | (have hp := HB3.out; exact hp) | exact (Below.refl _ _).drew))).mono ?_)
         rintro e w4 ⟨rfl, hb⟩
         have HB4 : Hid (Below w.heap.size w w4) := Lib.hid (by first | (have hp := HB3.out; exact hp.trans (hb.mono hp.size)) | exact (Below.refl _ _).drew.trans hb)
         clear hb
         have q24 : w4.cell? ⟨lb, k * 3 + 2, none⟩ = some (.slice (some ⟨G k, 0, none⟩) C (CC k)) := by rw [HB4.out.cell (by exact hlb)]; exact q2
         have c04 : w4.cell? ⟨G k, i * 9, none⟩ = some (.int .i64 (TY k i).kind) := by rw [HB4.out.cell (by exact hlg)]; exact c0
         have c14 : w4.cell? ⟨G k, i * 9 + 1, none⟩ = some (.int .i64 (TY k i).size) := by rw [HB4.out.cell (by exact hlg)]; exact c1
         have c24 : w4.cell? ⟨G k, i * 9 + 2, none⟩ = some (.bool (TY k i).sg) := by rw [HB4.out.cell (by exact hlg)]; exact c2
         have c34 : w4.cell? ⟨G k, i * 9 + 3, none⟩ = some (.bool (TY k i).sc) := by rw [HB4.out.cell (by exact hlg)]; exact c3
         have c44 : w4.cell? ⟨G k, i * 9 + 4, none⟩ = some (.pointer (EL k i)) := by rw [HB4.out.cell (by exact hlg)]; exact c4
         have c54 : w4.cell? ⟨G k, i * 9 + 5, none⟩ = some (.int .i64 (TY k i).len) := by rw [HB4.out.cell (by exact hlg)]; exact c5
         have c64 : w4.cell? ⟨G k, i * 9 + 6, none⟩ = some (.int .i64 (TY k i).num) := by rw [HB4.out.cell (by exact hlg)]; exact c6
         have c74 : w4.cell? ⟨G k, i * 9 + 7, none⟩ = some (.slice none 0 0) := by rw [HB4.out.cell (by exact hlg)]; exact c7
         have c84 : w4.cell? ⟨G k, i * 9 + 8, none⟩ = some (.pointer none) := by rw [HB4.out.cell (by exact hlg)]; exact c8))
  go_wp2_with fail
  go_ret
  exact ⟨rfl, by first | (have hp := HB3.out; have hq := HB4.out; exact (by first | exact hq | exact hp))⟩

end
end Go.Proofs.YtoajcggiccfaiaaDoor
