import Derived.Test.YtbflijjkdndefaaArH
namespace Go.Proofs.Ytbflijjkdndefaa
open Go Go.RowKit
set_option linter.unusedVariables false
set_option linter.unusedSimpArgs false

set_option maxHeartbeats 8000000 in
theorem shifts_1t (how n by_ x k A : Int) (hk : bits .and .i64 by_ 7 = k) (hk0 : 0 ≤ k) (hk1 : k < 8)
    (CT : ∀ w, Calls Try.prog 8 #[.int .i64 how] w (TypeIs 1 true w))
    (CX : ∀ w, Calls Try.prog 13 #[.agg #[.int .i64 1, .int .i64 1, .bool true, .bool false, .pointer none, .int .i64 0, .int .i64 0, .slice none 0 0, .pointer none], .int .i64 n] w (IntIs .i64 x w))
    (CA : ∀ w, Calls Try.prog 11 #[.string ⟨#[60, 60]⟩, .agg #[.int .i64 1, .int .i64 1, .bool true, .bool false, .pointer none, .int .i64 0, .int .i64 0, .slice none 0 0, .pointer none], .int .i64 x, .int .i64 by_] w  (PairIs A true w))
    (CB : ∀ w, Calls Try.prog 11 #[.string ⟨#[60, 60]⟩, .agg #[.int .i64 1, .int .i64 1, .bool true, .bool false, .pointer none, .int .i64 0, .int .i64 0, .slice none 0 0, .pointer none], .int .i64 x, .int .i64 k] w  (PairIs A true w))
    (CC : ∀ w, Calls Try.prog 11 #[.string ⟨#[62, 62]⟩, .agg #[.int .i64 1, .int .i64 1, .bool true, .bool false, .pointer none, .int .i64 0, .int .i64 0, .slice none 0 0, .pointer none], .int .i64 A, .int .i64 k] w  (PairIs (wrap64 (x * 2 ^ (64 - (8 - k)).toNat) / 2 ^ (64 - (8 - k)).toNat) true w))
    (w : World) : Calls Try.prog 6 #[.int .i64 how, .int .i64 n, .int .i64 by_] w (BoolIs true w) := by
  have HT := Lib.hid CT
  have HX := Lib.hid CX
  have HA := Lib.hid CA
  have HB := Lib.hid CB
  have HC := Lib.hid CC
  clear CT CX CA CB CC
  have e1 : 0 ≤ 64 - (8 - k) := by omega
  have e2 : 64 - (8 - k) ≤ 64 := by omega
  go_enter Try.func6, Try.ntmps6
  go_wp2_with fail
  refine (fit_law _).mono ?_
  rintro e w1 ⟨rfl, hb1⟩
  go_wp2_with fail
  refine (HT.out _).mono ?_
  rintro e w2 ⟨rfl, hb2⟩
  rw [show tV 1 true = .agg #[.int .i64 1, .int .i64 1, .bool true, .bool false, .pointer none, .int .i64 0, .int .i64 0, .slice none 0 0, .pointer none] from rfl]
  have HBA := Lib.hid (hb1.trans (hb2.mono hb1.size))
  clear hb1 hb2
  go_wp2_with fail
  generalize hW : w2.alloc _ = W
  have hbW : Below w.heap.size w W := by rw [← hW]; exact HBA.out.alloc HBA.out.size _
  have hsW : W.heap.size = w2.heap.size + 1 := by rw [← hW]; simp
  have HK : Hid (T9 W w2.heap.size 1 true) := Lib.hid (by rw [← hW]; exact t9_alloc w2 1 true _)
  have HBW := Lib.hid hbW
  have HSW := Lib.hid hsW
  have HSZ := Lib.hid (HBA.out.size)
  obtain ⟨k0_0, k0_1, k0_2, k0_3, k0_4, k0_5, k0_6, k0_7, k0_8⟩ := HK.out
  rw [show ((1 : Nat) : Int) = 1 from rfl] at k0_1
  clear hW hbW hsW HBA
  (with_reducible refine (HX.out _).mono ?_)
  rintro e w_1 ⟨rfl, hb1⟩
  have HB1 : Hid (Below W.heap.size W w_1) := Lib.hid ((Below.refl W.heap.size W).trans hb1)
  obtain ⟨k1_0, k1_1, k1_2, k1_3, k1_4, k1_5, k1_6, k1_7, k1_8⟩ := HK.out.below HB1.out (by have := HSW.out; omega); rw [show ((1 : Nat) : Int) = 1 from rfl] at k1_1
  clear hb1 k0_0 k0_1 k0_2 k0_3 k0_4 k0_5 k0_6 k0_7 k0_8
  go_wp2_with fail
  (with_reducible refine (HA.out _).mono ?_)
  rintro e w_2 ⟨rfl, hb2⟩
  have HB2 : Hid (Below W.heap.size W w_2) := Lib.hid (HB1.out.trans (hb2.mono HB1.out.size))
  obtain ⟨k2_0, k2_1, k2_2, k2_3, k2_4, k2_5, k2_6, k2_7, k2_8⟩ := HK.out.below HB2.out (by have := HSW.out; omega); rw [show ((1 : Nat) : Int) = 1 from rfl] at k2_1
  clear hb2 k1_0 k1_1 k1_2 k1_3 k1_4 k1_5 k1_6 k1_7 k1_8
  go_wp2_with fail
  (with_reducible refine (HB.out _).mono ?_)
  rintro e w_3 ⟨rfl, hb3⟩
  have HB3 : Hid (Below W.heap.size W w_3) := Lib.hid (HB2.out.trans (hb3.mono HB2.out.size))
  obtain ⟨k3_0, k3_1, k3_2, k3_3, k3_4, k3_5, k3_6, k3_7, k3_8⟩ := HK.out.below HB3.out (by have := HSW.out; omega); rw [show ((1 : Nat) : Int) = 1 from rfl] at k3_1
  clear hb3 k2_0 k2_1 k2_2 k2_3 k2_4 k2_5 k2_6 k2_7 k2_8
  go_wp2_with fail
  (with_reducible refine (HC.out _).mono ?_)
  rintro e w_4 ⟨rfl, hb4⟩
  have HB4 : Hid (Below W.heap.size W w_4) := Lib.hid (HB3.out.trans (hb4.mono HB3.out.size))
  obtain ⟨k4_0, k4_1, k4_2, k4_3, k4_4, k4_5, k4_6, k4_7, k4_8⟩ := HK.out.below HB4.out (by have := HSW.out; omega); rw [show ((1 : Nat) : Int) = 1 from rfl] at k4_1
  clear hb4 k3_0 k3_1 k3_2 k3_3 k3_4 k3_5 k3_6 k3_7 k3_8
  go_wp2_with fail
  go_ret
  exact ⟨rfl, HBW.out.trans (HB4.out.mono (by have := HSW.out; have := HSZ.out; omega))⟩

set_option maxHeartbeats 8000000 in
theorem shifts_1f (how n by_ x k A : Int) (hk : bits .and .i64 by_ 7 = k) (hk0 : 0 ≤ k) (hk1 : k < 8)
    (CT : ∀ w, Calls Try.prog 8 #[.int .i64 how] w (TypeIs 1 false w))
    (CX : ∀ w, Calls Try.prog 13 #[.agg #[.int .i64 1, .int .i64 1, .bool false, .bool false, .pointer none, .int .i64 0, .int .i64 0, .slice none 0 0, .pointer none], .int .i64 n] w (IntIs .i64 x w))
    (CA : ∀ w, Calls Try.prog 11 #[.string ⟨#[60, 60]⟩, .agg #[.int .i64 1, .int .i64 1, .bool false, .bool false, .pointer none, .int .i64 0, .int .i64 0, .slice none 0 0, .pointer none], .int .i64 x, .int .i64 by_] w  (PairIs A true w))
    (CB : ∀ w, Calls Try.prog 11 #[.string ⟨#[60, 60]⟩, .agg #[.int .i64 1, .int .i64 1, .bool false, .bool false, .pointer none, .int .i64 0, .int .i64 0, .slice none 0 0, .pointer none], .int .i64 x, .int .i64 k] w  (PairIs A true w))
    (CC : ∀ w, Calls Try.prog 11 #[.string ⟨#[62, 62]⟩, .agg #[.int .i64 1, .int .i64 1, .bool false, .bool false, .pointer none, .int .i64 0, .int .i64 0, .slice none 0 0, .pointer none], .int .i64 A, .int .i64 k] w  (PairIs (wrap64 (IntKind.u64.wrap (IntKind.u64.wrap x * 2 ^ (64 - (8 - k)).toNat) / 2 ^ (64 - (8 - k)).toNat)) true w))
    (w : World) : Calls Try.prog 6 #[.int .i64 how, .int .i64 n, .int .i64 by_] w (BoolIs true w) := by
  have HT := Lib.hid CT
  have HX := Lib.hid CX
  have HA := Lib.hid CA
  have HB := Lib.hid CB
  have HC := Lib.hid CC
  clear CT CX CA CB CC
  have e1 : 0 ≤ 64 - (8 - k) := by omega
  have e2 : 64 - (8 - k) ≤ 64 := by omega
  go_enter Try.func6, Try.ntmps6
  go_wp2_with fail
  refine (fit_law _).mono ?_
  rintro e w1 ⟨rfl, hb1⟩
  go_wp2_with fail
  refine (HT.out _).mono ?_
  rintro e w2 ⟨rfl, hb2⟩
  rw [show tV 1 false = .agg #[.int .i64 1, .int .i64 1, .bool false, .bool false, .pointer none, .int .i64 0, .int .i64 0, .slice none 0 0, .pointer none] from rfl]
  have HBA := Lib.hid (hb1.trans (hb2.mono hb1.size))
  clear hb1 hb2
  go_wp2_with fail
  generalize hW : w2.alloc _ = W
  have hbW : Below w.heap.size w W := by rw [← hW]; exact HBA.out.alloc HBA.out.size _
  have hsW : W.heap.size = w2.heap.size + 1 := by rw [← hW]; simp
  have HK : Hid (T9 W w2.heap.size 1 false) := Lib.hid (by rw [← hW]; exact t9_alloc w2 1 false _)
  have HBW := Lib.hid hbW
  have HSW := Lib.hid hsW
  have HSZ := Lib.hid (HBA.out.size)
  obtain ⟨k0_0, k0_1, k0_2, k0_3, k0_4, k0_5, k0_6, k0_7, k0_8⟩ := HK.out
  rw [show ((1 : Nat) : Int) = 1 from rfl] at k0_1
  clear hW hbW hsW HBA
  (with_reducible refine (HX.out _).mono ?_)
  rintro e w_1 ⟨rfl, hb1⟩
  have HB1 : Hid (Below W.heap.size W w_1) := Lib.hid ((Below.refl W.heap.size W).trans hb1)
  obtain ⟨k1_0, k1_1, k1_2, k1_3, k1_4, k1_5, k1_6, k1_7, k1_8⟩ := HK.out.below HB1.out (by have := HSW.out; omega); rw [show ((1 : Nat) : Int) = 1 from rfl] at k1_1
  clear hb1 k0_0 k0_1 k0_2 k0_3 k0_4 k0_5 k0_6 k0_7 k0_8
  go_wp2_with fail
  (with_reducible refine (HA.out _).mono ?_)
  rintro e w_2 ⟨rfl, hb2⟩
  have HB2 : Hid (Below W.heap.size W w_2) := Lib.hid (HB1.out.trans (hb2.mono HB1.out.size))
  obtain ⟨k2_0, k2_1, k2_2, k2_3, k2_4, k2_5, k2_6, k2_7, k2_8⟩ := HK.out.below HB2.out (by have := HSW.out; omega); rw [show ((1 : Nat) : Int) = 1 from rfl] at k2_1
  clear hb2 k1_0 k1_1 k1_2 k1_3 k1_4 k1_5 k1_6 k1_7 k1_8
  go_wp2_with fail
  (with_reducible refine (HB.out _).mono ?_)
  rintro e w_3 ⟨rfl, hb3⟩
  have HB3 : Hid (Below W.heap.size W w_3) := Lib.hid (HB2.out.trans (hb3.mono HB2.out.size))
  obtain ⟨k3_0, k3_1, k3_2, k3_3, k3_4, k3_5, k3_6, k3_7, k3_8⟩ := HK.out.below HB3.out (by have := HSW.out; omega); rw [show ((1 : Nat) : Int) = 1 from rfl] at k3_1
  clear hb3 k2_0 k2_1 k2_2 k2_3 k2_4 k2_5 k2_6 k2_7 k2_8
  go_wp2_with fail
  (with_reducible refine (HC.out _).mono ?_)
  rintro e w_4 ⟨rfl, hb4⟩
  have HB4 : Hid (Below W.heap.size W w_4) := Lib.hid (HB3.out.trans (hb4.mono HB3.out.size))
  obtain ⟨k4_0, k4_1, k4_2, k4_3, k4_4, k4_5, k4_6, k4_7, k4_8⟩ := HK.out.below HB4.out (by have := HSW.out; omega); rw [show ((1 : Nat) : Int) = 1 from rfl] at k4_1
  clear hb4 k3_0 k3_1 k3_2 k3_3 k3_4 k3_5 k3_6 k3_7 k3_8
  go_wp2_with fail
  go_ret
  exact ⟨rfl, HBW.out.trans (HB4.out.mono (by have := HSW.out; have := HSZ.out; omega))⟩

set_option maxHeartbeats 8000000 in
theorem shifts_2t (how n by_ x k A : Int) (hk : bits .and .i64 by_ 15 = k) (hk0 : 0 ≤ k) (hk1 : k < 16)
    (CT : ∀ w, Calls Try.prog 8 #[.int .i64 how] w (TypeIs 2 true w))
    (CX : ∀ w, Calls Try.prog 13 #[.agg #[.int .i64 1, .int .i64 2, .bool true, .bool false, .pointer none, .int .i64 0, .int .i64 0, .slice none 0 0, .pointer none], .int .i64 n] w (IntIs .i64 x w))
    (CA : ∀ w, Calls Try.prog 11 #[.string ⟨#[60, 60]⟩, .agg #[.int .i64 1, .int .i64 2, .bool true, .bool false, .pointer none, .int .i64 0, .int .i64 0, .slice none 0 0, .pointer none], .int .i64 x, .int .i64 by_] w  (PairIs A true w))
    (CB : ∀ w, Calls Try.prog 11 #[.string ⟨#[60, 60]⟩, .agg #[.int .i64 1, .int .i64 2, .bool true, .bool false, .pointer none, .int .i64 0, .int .i64 0, .slice none 0 0, .pointer none], .int .i64 x, .int .i64 k] w  (PairIs A true w))
    (CC : ∀ w, Calls Try.prog 11 #[.string ⟨#[62, 62]⟩, .agg #[.int .i64 1, .int .i64 2, .bool true, .bool false, .pointer none, .int .i64 0, .int .i64 0, .slice none 0 0, .pointer none], .int .i64 A, .int .i64 k] w  (PairIs (wrap64 (x * 2 ^ (64 - (16 - k)).toNat) / 2 ^ (64 - (16 - k)).toNat) true w))
    (w : World) : Calls Try.prog 6 #[.int .i64 how, .int .i64 n, .int .i64 by_] w (BoolIs true w) := by
  have HT := Lib.hid CT
  have HX := Lib.hid CX
  have HA := Lib.hid CA
  have HB := Lib.hid CB
  have HC := Lib.hid CC
  clear CT CX CA CB CC
  have e1 : 0 ≤ 64 - (16 - k) := by omega
  have e2 : 64 - (16 - k) ≤ 64 := by omega
  go_enter Try.func6, Try.ntmps6
  go_wp2_with fail
  refine (fit_law _).mono ?_
  rintro e w1 ⟨rfl, hb1⟩
  go_wp2_with fail
  refine (HT.out _).mono ?_
  rintro e w2 ⟨rfl, hb2⟩
  rw [show tV 2 true = .agg #[.int .i64 1, .int .i64 2, .bool true, .bool false, .pointer none, .int .i64 0, .int .i64 0, .slice none 0 0, .pointer none] from rfl]
  have HBA := Lib.hid (hb1.trans (hb2.mono hb1.size))
  clear hb1 hb2
  go_wp2_with fail
  generalize hW : w2.alloc _ = W
  have hbW : Below w.heap.size w W := by rw [← hW]; exact HBA.out.alloc HBA.out.size _
  have hsW : W.heap.size = w2.heap.size + 1 := by rw [← hW]; simp
  have HK : Hid (T9 W w2.heap.size 2 true) := Lib.hid (by rw [← hW]; exact t9_alloc w2 2 true _)
  have HBW := Lib.hid hbW
  have HSW := Lib.hid hsW
  have HSZ := Lib.hid (HBA.out.size)
  obtain ⟨k0_0, k0_1, k0_2, k0_3, k0_4, k0_5, k0_6, k0_7, k0_8⟩ := HK.out
  rw [show ((2 : Nat) : Int) = 2 from rfl] at k0_1
  clear hW hbW hsW HBA
  (with_reducible refine (HX.out _).mono ?_)
  rintro e w_1 ⟨rfl, hb1⟩
  have HB1 : Hid (Below W.heap.size W w_1) := Lib.hid ((Below.refl W.heap.size W).trans hb1)
  obtain ⟨k1_0, k1_1, k1_2, k1_3, k1_4, k1_5, k1_6, k1_7, k1_8⟩ := HK.out.below HB1.out (by have := HSW.out; omega); rw [show ((2 : Nat) : Int) = 2 from rfl] at k1_1
  clear hb1 k0_0 k0_1 k0_2 k0_3 k0_4 k0_5 k0_6 k0_7 k0_8
  go_wp2_with fail
  (with_reducible refine (HA.out _).mono ?_)
  rintro e w_2 ⟨rfl, hb2⟩
  have HB2 : Hid (Below W.heap.size W w_2) := Lib.hid (HB1.out.trans (hb2.mono HB1.out.size))
  obtain ⟨k2_0, k2_1, k2_2, k2_3, k2_4, k2_5, k2_6, k2_7, k2_8⟩ := HK.out.below HB2.out (by have := HSW.out; omega); rw [show ((2 : Nat) : Int) = 2 from rfl] at k2_1
  clear hb2 k1_0 k1_1 k1_2 k1_3 k1_4 k1_5 k1_6 k1_7 k1_8
  go_wp2_with fail
  (with_reducible refine (HB.out _).mono ?_)
  rintro e w_3 ⟨rfl, hb3⟩
  have HB3 : Hid (Below W.heap.size W w_3) := Lib.hid (HB2.out.trans (hb3.mono HB2.out.size))
  obtain ⟨k3_0, k3_1, k3_2, k3_3, k3_4, k3_5, k3_6, k3_7, k3_8⟩ := HK.out.below HB3.out (by have := HSW.out; omega); rw [show ((2 : Nat) : Int) = 2 from rfl] at k3_1
  clear hb3 k2_0 k2_1 k2_2 k2_3 k2_4 k2_5 k2_6 k2_7 k2_8
  go_wp2_with fail
  (with_reducible refine (HC.out _).mono ?_)
  rintro e w_4 ⟨rfl, hb4⟩
  have HB4 : Hid (Below W.heap.size W w_4) := Lib.hid (HB3.out.trans (hb4.mono HB3.out.size))
  obtain ⟨k4_0, k4_1, k4_2, k4_3, k4_4, k4_5, k4_6, k4_7, k4_8⟩ := HK.out.below HB4.out (by have := HSW.out; omega); rw [show ((2 : Nat) : Int) = 2 from rfl] at k4_1
  clear hb4 k3_0 k3_1 k3_2 k3_3 k3_4 k3_5 k3_6 k3_7 k3_8
  go_wp2_with fail
  go_ret
  exact ⟨rfl, HBW.out.trans (HB4.out.mono (by have := HSW.out; have := HSZ.out; omega))⟩

set_option maxHeartbeats 8000000 in
theorem shifts_2f (how n by_ x k A : Int) (hk : bits .and .i64 by_ 15 = k) (hk0 : 0 ≤ k) (hk1 : k < 16)
    (CT : ∀ w, Calls Try.prog 8 #[.int .i64 how] w (TypeIs 2 false w))
    (CX : ∀ w, Calls Try.prog 13 #[.agg #[.int .i64 1, .int .i64 2, .bool false, .bool false, .pointer none, .int .i64 0, .int .i64 0, .slice none 0 0, .pointer none], .int .i64 n] w (IntIs .i64 x w))
    (CA : ∀ w, Calls Try.prog 11 #[.string ⟨#[60, 60]⟩, .agg #[.int .i64 1, .int .i64 2, .bool false, .bool false, .pointer none, .int .i64 0, .int .i64 0, .slice none 0 0, .pointer none], .int .i64 x, .int .i64 by_] w  (PairIs A true w))
    (CB : ∀ w, Calls Try.prog 11 #[.string ⟨#[60, 60]⟩, .agg #[.int .i64 1, .int .i64 2, .bool false, .bool false, .pointer none, .int .i64 0, .int .i64 0, .slice none 0 0, .pointer none], .int .i64 x, .int .i64 k] w  (PairIs A true w))
    (CC : ∀ w, Calls Try.prog 11 #[.string ⟨#[62, 62]⟩, .agg #[.int .i64 1, .int .i64 2, .bool false, .bool false, .pointer none, .int .i64 0, .int .i64 0, .slice none 0 0, .pointer none], .int .i64 A, .int .i64 k] w  (PairIs (wrap64 (IntKind.u64.wrap (IntKind.u64.wrap x * 2 ^ (64 - (16 - k)).toNat) / 2 ^ (64 - (16 - k)).toNat)) true w))
    (w : World) : Calls Try.prog 6 #[.int .i64 how, .int .i64 n, .int .i64 by_] w (BoolIs true w) := by
  have HT := Lib.hid CT
  have HX := Lib.hid CX
  have HA := Lib.hid CA
  have HB := Lib.hid CB
  have HC := Lib.hid CC
  clear CT CX CA CB CC
  have e1 : 0 ≤ 64 - (16 - k) := by omega
  have e2 : 64 - (16 - k) ≤ 64 := by omega
  go_enter Try.func6, Try.ntmps6
  go_wp2_with fail
  refine (fit_law _).mono ?_
  rintro e w1 ⟨rfl, hb1⟩
  go_wp2_with fail
  refine (HT.out _).mono ?_
  rintro e w2 ⟨rfl, hb2⟩
  rw [show tV 2 false = .agg #[.int .i64 1, .int .i64 2, .bool false, .bool false, .pointer none, .int .i64 0, .int .i64 0, .slice none 0 0, .pointer none] from rfl]
  have HBA := Lib.hid (hb1.trans (hb2.mono hb1.size))
  clear hb1 hb2
  go_wp2_with fail
  generalize hW : w2.alloc _ = W
  have hbW : Below w.heap.size w W := by rw [← hW]; exact HBA.out.alloc HBA.out.size _
  have hsW : W.heap.size = w2.heap.size + 1 := by rw [← hW]; simp
  have HK : Hid (T9 W w2.heap.size 2 false) := Lib.hid (by rw [← hW]; exact t9_alloc w2 2 false _)
  have HBW := Lib.hid hbW
  have HSW := Lib.hid hsW
  have HSZ := Lib.hid (HBA.out.size)
  obtain ⟨k0_0, k0_1, k0_2, k0_3, k0_4, k0_5, k0_6, k0_7, k0_8⟩ := HK.out
  rw [show ((2 : Nat) : Int) = 2 from rfl] at k0_1
  clear hW hbW hsW HBA
  (with_reducible refine (HX.out _).mono ?_)
  rintro e w_1 ⟨rfl, hb1⟩
  have HB1 : Hid (Below W.heap.size W w_1) := Lib.hid ((Below.refl W.heap.size W).trans hb1)
  obtain ⟨k1_0, k1_1, k1_2, k1_3, k1_4, k1_5, k1_6, k1_7, k1_8⟩ := HK.out.below HB1.out (by have := HSW.out; omega); rw [show ((2 : Nat) : Int) = 2 from rfl] at k1_1
  clear hb1 k0_0 k0_1 k0_2 k0_3 k0_4 k0_5 k0_6 k0_7 k0_8
  go_wp2_with fail
  (with_reducible refine (HA.out _).mono ?_)
  rintro e w_2 ⟨rfl, hb2⟩
  have HB2 : Hid (Below W.heap.size W w_2) := Lib.hid (HB1.out.trans (hb2.mono HB1.out.size))
  obtain ⟨k2_0, k2_1, k2_2, k2_3, k2_4, k2_5, k2_6, k2_7, k2_8⟩ := HK.out.below HB2.out (by have := HSW.out; omega); rw [show ((2 : Nat) : Int) = 2 from rfl] at k2_1
  clear hb2 k1_0 k1_1 k1_2 k1_3 k1_4 k1_5 k1_6 k1_7 k1_8
  go_wp2_with fail
  (with_reducible refine (HB.out _).mono ?_)
  rintro e w_3 ⟨rfl, hb3⟩
  have HB3 : Hid (Below W.heap.size W w_3) := Lib.hid (HB2.out.trans (hb3.mono HB2.out.size))
  obtain ⟨k3_0, k3_1, k3_2, k3_3, k3_4, k3_5, k3_6, k3_7, k3_8⟩ := HK.out.below HB3.out (by have := HSW.out; omega); rw [show ((2 : Nat) : Int) = 2 from rfl] at k3_1
  clear hb3 k2_0 k2_1 k2_2 k2_3 k2_4 k2_5 k2_6 k2_7 k2_8
  go_wp2_with fail
  (with_reducible refine (HC.out _).mono ?_)
  rintro e w_4 ⟨rfl, hb4⟩
  have HB4 : Hid (Below W.heap.size W w_4) := Lib.hid (HB3.out.trans (hb4.mono HB3.out.size))
  obtain ⟨k4_0, k4_1, k4_2, k4_3, k4_4, k4_5, k4_6, k4_7, k4_8⟩ := HK.out.below HB4.out (by have := HSW.out; omega); rw [show ((2 : Nat) : Int) = 2 from rfl] at k4_1
  clear hb4 k3_0 k3_1 k3_2 k3_3 k3_4 k3_5 k3_6 k3_7 k3_8
  go_wp2_with fail
  go_ret
  exact ⟨rfl, HBW.out.trans (HB4.out.mono (by have := HSW.out; have := HSZ.out; omega))⟩

set_option maxHeartbeats 8000000 in
theorem shifts_4t (how n by_ x k A : Int) (hk : bits .and .i64 by_ 31 = k) (hk0 : 0 ≤ k) (hk1 : k < 32)
    (CT : ∀ w, Calls Try.prog 8 #[.int .i64 how] w (TypeIs 4 true w))
    (CX : ∀ w, Calls Try.prog 13 #[.agg #[.int .i64 1, .int .i64 4, .bool true, .bool false, .pointer none, .int .i64 0, .int .i64 0, .slice none 0 0, .pointer none], .int .i64 n] w (IntIs .i64 x w))
    (CA : ∀ w, Calls Try.prog 11 #[.string ⟨#[60, 60]⟩, .agg #[.int .i64 1, .int .i64 4, .bool true, .bool false, .pointer none, .int .i64 0, .int .i64 0, .slice none 0 0, .pointer none], .int .i64 x, .int .i64 by_] w  (PairIs A true w))
    (CB : ∀ w, Calls Try.prog 11 #[.string ⟨#[60, 60]⟩, .agg #[.int .i64 1, .int .i64 4, .bool true, .bool false, .pointer none, .int .i64 0, .int .i64 0, .slice none 0 0, .pointer none], .int .i64 x, .int .i64 k] w  (PairIs A true w))
    (CC : ∀ w, Calls Try.prog 11 #[.string ⟨#[62, 62]⟩, .agg #[.int .i64 1, .int .i64 4, .bool true, .bool false, .pointer none, .int .i64 0, .int .i64 0, .slice none 0 0, .pointer none], .int .i64 A, .int .i64 k] w  (PairIs (wrap64 (x * 2 ^ (64 - (32 - k)).toNat) / 2 ^ (64 - (32 - k)).toNat) true w))
    (w : World) : Calls Try.prog 6 #[.int .i64 how, .int .i64 n, .int .i64 by_] w (BoolIs true w) := by
  have HT := Lib.hid CT
  have HX := Lib.hid CX
  have HA := Lib.hid CA
  have HB := Lib.hid CB
  have HC := Lib.hid CC
  clear CT CX CA CB CC
  have e1 : 0 ≤ 64 - (32 - k) := by omega
  have e2 : 64 - (32 - k) ≤ 64 := by omega
  go_enter Try.func6, Try.ntmps6
  go_wp2_with fail
  refine (fit_law _).mono ?_
  rintro e w1 ⟨rfl, hb1⟩
  go_wp2_with fail
  refine (HT.out _).mono ?_
  rintro e w2 ⟨rfl, hb2⟩
  rw [show tV 4 true = .agg #[.int .i64 1, .int .i64 4, .bool true, .bool false, .pointer none, .int .i64 0, .int .i64 0, .slice none 0 0, .pointer none] from rfl]
  have HBA := Lib.hid (hb1.trans (hb2.mono hb1.size))
  clear hb1 hb2
  go_wp2_with fail
  generalize hW : w2.alloc _ = W
  have hbW : Below w.heap.size w W := by rw [← hW]; exact HBA.out.alloc HBA.out.size _
  have hsW : W.heap.size = w2.heap.size + 1 := by rw [← hW]; simp
  have HK : Hid (T9 W w2.heap.size 4 true) := Lib.hid (by rw [← hW]; exact t9_alloc w2 4 true _)
  have HBW := Lib.hid hbW
  have HSW := Lib.hid hsW
  have HSZ := Lib.hid (HBA.out.size)
  obtain ⟨k0_0, k0_1, k0_2, k0_3, k0_4, k0_5, k0_6, k0_7, k0_8⟩ := HK.out
  rw [show ((4 : Nat) : Int) = 4 from rfl] at k0_1
  clear hW hbW hsW HBA
  (with_reducible refine (HX.out _).mono ?_)
  rintro e w_1 ⟨rfl, hb1⟩
  have HB1 : Hid (Below W.heap.size W w_1) := Lib.hid ((Below.refl W.heap.size W).trans hb1)
  obtain ⟨k1_0, k1_1, k1_2, k1_3, k1_4, k1_5, k1_6, k1_7, k1_8⟩ := HK.out.below HB1.out (by have := HSW.out; omega); rw [show ((4 : Nat) : Int) = 4 from rfl] at k1_1
  clear hb1 k0_0 k0_1 k0_2 k0_3 k0_4 k0_5 k0_6 k0_7 k0_8
  go_wp2_with fail
  (with_reducible refine (HA.out _).mono ?_)
  rintro e w_2 ⟨rfl, hb2⟩
  have HB2 : Hid (Below W.heap.size W w_2) := Lib.hid (HB1.out.trans (hb2.mono HB1.out.size))
  obtain ⟨k2_0, k2_1, k2_2, k2_3, k2_4, k2_5, k2_6, k2_7, k2_8⟩ := HK.out.below HB2.out (by have := HSW.out; omega); rw [show ((4 : Nat) : Int) = 4 from rfl] at k2_1
  clear hb2 k1_0 k1_1 k1_2 k1_3 k1_4 k1_5 k1_6 k1_7 k1_8
  go_wp2_with fail
  (with_reducible refine (HB.out _).mono ?_)
  rintro e w_3 ⟨rfl, hb3⟩
  have HB3 : Hid (Below W.heap.size W w_3) := Lib.hid (HB2.out.trans (hb3.mono HB2.out.size))
  obtain ⟨k3_0, k3_1, k3_2, k3_3, k3_4, k3_5, k3_6, k3_7, k3_8⟩ := HK.out.below HB3.out (by have := HSW.out; omega); rw [show ((4 : Nat) : Int) = 4 from rfl] at k3_1
  clear hb3 k2_0 k2_1 k2_2 k2_3 k2_4 k2_5 k2_6 k2_7 k2_8
  go_wp2_with fail
  (with_reducible refine (HC.out _).mono ?_)
  rintro e w_4 ⟨rfl, hb4⟩
  have HB4 : Hid (Below W.heap.size W w_4) := Lib.hid (HB3.out.trans (hb4.mono HB3.out.size))
  obtain ⟨k4_0, k4_1, k4_2, k4_3, k4_4, k4_5, k4_6, k4_7, k4_8⟩ := HK.out.below HB4.out (by have := HSW.out; omega); rw [show ((4 : Nat) : Int) = 4 from rfl] at k4_1
  clear hb4 k3_0 k3_1 k3_2 k3_3 k3_4 k3_5 k3_6 k3_7 k3_8
  go_wp2_with fail
  go_ret
  exact ⟨rfl, HBW.out.trans (HB4.out.mono (by have := HSW.out; have := HSZ.out; omega))⟩

set_option maxHeartbeats 8000000 in
theorem shifts_4f (how n by_ x k A : Int) (hk : bits .and .i64 by_ 31 = k) (hk0 : 0 ≤ k) (hk1 : k < 32)
    (CT : ∀ w, Calls Try.prog 8 #[.int .i64 how] w (TypeIs 4 false w))
    (CX : ∀ w, Calls Try.prog 13 #[.agg #[.int .i64 1, .int .i64 4, .bool false, .bool false, .pointer none, .int .i64 0, .int .i64 0, .slice none 0 0, .pointer none], .int .i64 n] w (IntIs .i64 x w))
    (CA : ∀ w, Calls Try.prog 11 #[.string ⟨#[60, 60]⟩, .agg #[.int .i64 1, .int .i64 4, .bool false, .bool false, .pointer none, .int .i64 0, .int .i64 0, .slice none 0 0, .pointer none], .int .i64 x, .int .i64 by_] w  (PairIs A true w))
    (CB : ∀ w, Calls Try.prog 11 #[.string ⟨#[60, 60]⟩, .agg #[.int .i64 1, .int .i64 4, .bool false, .bool false, .pointer none, .int .i64 0, .int .i64 0, .slice none 0 0, .pointer none], .int .i64 x, .int .i64 k] w  (PairIs A true w))
    (CC : ∀ w, Calls Try.prog 11 #[.string ⟨#[62, 62]⟩, .agg #[.int .i64 1, .int .i64 4, .bool false, .bool false, .pointer none, .int .i64 0, .int .i64 0, .slice none 0 0, .pointer none], .int .i64 A, .int .i64 k] w  (PairIs (wrap64 (IntKind.u64.wrap (IntKind.u64.wrap x * 2 ^ (64 - (32 - k)).toNat) / 2 ^ (64 - (32 - k)).toNat)) true w))
    (w : World) : Calls Try.prog 6 #[.int .i64 how, .int .i64 n, .int .i64 by_] w (BoolIs true w) := by
  have HT := Lib.hid CT
  have HX := Lib.hid CX
  have HA := Lib.hid CA
  have HB := Lib.hid CB
  have HC := Lib.hid CC
  clear CT CX CA CB CC
  have e1 : 0 ≤ 64 - (32 - k) := by omega
  have e2 : 64 - (32 - k) ≤ 64 := by omega
  go_enter Try.func6, Try.ntmps6
  go_wp2_with fail
  refine (fit_law _).mono ?_
  rintro e w1 ⟨rfl, hb1⟩
  go_wp2_with fail
  refine (HT.out _).mono ?_
  rintro e w2 ⟨rfl, hb2⟩
  rw [show tV 4 false = .agg #[.int .i64 1, .int .i64 4, .bool false, .bool false, .pointer none, .int .i64 0, .int .i64 0, .slice none 0 0, .pointer none] from rfl]
  have HBA := Lib.hid (hb1.trans (hb2.mono hb1.size))
  clear hb1 hb2
  go_wp2_with fail
  generalize hW : w2.alloc _ = W
  have hbW : Below w.heap.size w W := by rw [← hW]; exact HBA.out.alloc HBA.out.size _
  have hsW : W.heap.size = w2.heap.size + 1 := by rw [← hW]; simp
  have HK : Hid (T9 W w2.heap.size 4 false) := Lib.hid (by rw [← hW]; exact t9_alloc w2 4 false _)
  have HBW := Lib.hid hbW
  have HSW := Lib.hid hsW
  have HSZ := Lib.hid (HBA.out.size)
  obtain ⟨k0_0, k0_1, k0_2, k0_3, k0_4, k0_5, k0_6, k0_7, k0_8⟩ := HK.out
  rw [show ((4 : Nat) : Int) = 4 from rfl] at k0_1
  clear hW hbW hsW HBA
  (with_reducible refine (HX.out _).mono ?_)
  rintro e w_1 ⟨rfl, hb1⟩
  have HB1 : Hid (Below W.heap.size W w_1) := Lib.hid ((Below.refl W.heap.size W).trans hb1)
  obtain ⟨k1_0, k1_1, k1_2, k1_3, k1_4, k1_5, k1_6, k1_7, k1_8⟩ := HK.out.below HB1.out (by have := HSW.out; omega); rw [show ((4 : Nat) : Int) = 4 from rfl] at k1_1
  clear hb1 k0_0 k0_1 k0_2 k0_3 k0_4 k0_5 k0_6 k0_7 k0_8
  go_wp2_with fail
  (with_reducible refine (HA.out _).mono ?_)
  rintro e w_2 ⟨rfl, hb2⟩
  have HB2 : Hid (Below W.heap.size W w_2) := Lib.hid (HB1.out.trans (hb2.mono HB1.out.size))
  obtain ⟨k2_0, k2_1, k2_2, k2_3, k2_4, k2_5, k2_6, k2_7, k2_8⟩ := HK.out.below HB2.out (by have := HSW.out; omega); rw [show ((4 : Nat) : Int) = 4 from rfl] at k2_1
  clear hb2 k1_0 k1_1 k1_2 k1_3 k1_4 k1_5 k1_6 k1_7 k1_8
  go_wp2_with fail
  (with_reducible refine (HB.out _).mono ?_)
  rintro e w_3 ⟨rfl, hb3⟩
  have HB3 : Hid (Below W.heap.size W w_3) := Lib.hid (HB2.out.trans (hb3.mono HB2.out.size))
  obtain ⟨k3_0, k3_1, k3_2, k3_3, k3_4, k3_5, k3_6, k3_7, k3_8⟩ := HK.out.below HB3.out (by have := HSW.out; omega); rw [show ((4 : Nat) : Int) = 4 from rfl] at k3_1
  clear hb3 k2_0 k2_1 k2_2 k2_3 k2_4 k2_5 k2_6 k2_7 k2_8
  go_wp2_with fail
  (with_reducible refine (HC.out _).mono ?_)
  rintro e w_4 ⟨rfl, hb4⟩
  have HB4 : Hid (Below W.heap.size W w_4) := Lib.hid (HB3.out.trans (hb4.mono HB3.out.size))
  obtain ⟨k4_0, k4_1, k4_2, k4_3, k4_4, k4_5, k4_6, k4_7, k4_8⟩ := HK.out.below HB4.out (by have := HSW.out; omega); rw [show ((4 : Nat) : Int) = 4 from rfl] at k4_1
  clear hb4 k3_0 k3_1 k3_2 k3_3 k3_4 k3_5 k3_6 k3_7 k3_8
  go_wp2_with fail
  go_ret
  exact ⟨rfl, HBW.out.trans (HB4.out.mono (by have := HSW.out; have := HSZ.out; omega))⟩

set_option maxHeartbeats 8000000 in
theorem shifts_8t (how n by_ x k A : Int) (hk : bits .and .i64 by_ 63 = k) (hk0 : 0 ≤ k) (hk1 : k < 64)
    (CT : ∀ w, Calls Try.prog 8 #[.int .i64 how] w (TypeIs 8 true w))
    (CX : ∀ w, Calls Try.prog 13 #[.agg #[.int .i64 1, .int .i64 8, .bool true, .bool false, .pointer none, .int .i64 0, .int .i64 0, .slice none 0 0, .pointer none], .int .i64 n] w (IntIs .i64 x w))
    (CA : ∀ w, Calls Try.prog 11 #[.string ⟨#[60, 60]⟩, .agg #[.int .i64 1, .int .i64 8, .bool true, .bool false, .pointer none, .int .i64 0, .int .i64 0, .slice none 0 0, .pointer none], .int .i64 x, .int .i64 by_] w  (PairIs A true w))
    (CB : ∀ w, Calls Try.prog 11 #[.string ⟨#[60, 60]⟩, .agg #[.int .i64 1, .int .i64 8, .bool true, .bool false, .pointer none, .int .i64 0, .int .i64 0, .slice none 0 0, .pointer none], .int .i64 x, .int .i64 k] w  (PairIs A true w))
    (CC : ∀ w, Calls Try.prog 11 #[.string ⟨#[62, 62]⟩, .agg #[.int .i64 1, .int .i64 8, .bool true, .bool false, .pointer none, .int .i64 0, .int .i64 0, .slice none 0 0, .pointer none], .int .i64 A, .int .i64 k] w  (PairIs (wrap64 (x * 2 ^ (64 - (64 - k)).toNat) / 2 ^ (64 - (64 - k)).toNat) true w))
    (w : World) : Calls Try.prog 6 #[.int .i64 how, .int .i64 n, .int .i64 by_] w (BoolIs true w) := by
  have HT := Lib.hid CT
  have HX := Lib.hid CX
  have HA := Lib.hid CA
  have HB := Lib.hid CB
  have HC := Lib.hid CC
  clear CT CX CA CB CC
  have e1 : 0 ≤ 64 - (64 - k) := by omega
  have e2 : 64 - (64 - k) ≤ 64 := by omega
  go_enter Try.func6, Try.ntmps6
  go_wp2_with fail
  refine (fit_law _).mono ?_
  rintro e w1 ⟨rfl, hb1⟩
  go_wp2_with fail
  refine (HT.out _).mono ?_
  rintro e w2 ⟨rfl, hb2⟩
  rw [show tV 8 true = .agg #[.int .i64 1, .int .i64 8, .bool true, .bool false, .pointer none, .int .i64 0, .int .i64 0, .slice none 0 0, .pointer none] from rfl]
  have HBA := Lib.hid (hb1.trans (hb2.mono hb1.size))
  clear hb1 hb2
  go_wp2_with fail
  generalize hW : w2.alloc _ = W
  have hbW : Below w.heap.size w W := by rw [← hW]; exact HBA.out.alloc HBA.out.size _
  have hsW : W.heap.size = w2.heap.size + 1 := by rw [← hW]; simp
  have HK : Hid (T9 W w2.heap.size 8 true) := Lib.hid (by rw [← hW]; exact t9_alloc w2 8 true _)
  have HBW := Lib.hid hbW
  have HSW := Lib.hid hsW
  have HSZ := Lib.hid (HBA.out.size)
  obtain ⟨k0_0, k0_1, k0_2, k0_3, k0_4, k0_5, k0_6, k0_7, k0_8⟩ := HK.out
  rw [show ((8 : Nat) : Int) = 8 from rfl] at k0_1
  clear hW hbW hsW HBA
  (with_reducible refine (HX.out _).mono ?_)
  rintro e w_1 ⟨rfl, hb1⟩
  have HB1 : Hid (Below W.heap.size W w_1) := Lib.hid ((Below.refl W.heap.size W).trans hb1)
  obtain ⟨k1_0, k1_1, k1_2, k1_3, k1_4, k1_5, k1_6, k1_7, k1_8⟩ := HK.out.below HB1.out (by have := HSW.out; omega); rw [show ((8 : Nat) : Int) = 8 from rfl] at k1_1
  clear hb1 k0_0 k0_1 k0_2 k0_3 k0_4 k0_5 k0_6 k0_7 k0_8
  go_wp2_with fail
  (with_reducible refine (HA.out _).mono ?_)
  rintro e w_2 ⟨rfl, hb2⟩
  have HB2 : Hid (Below W.heap.size W w_2) := Lib.hid (HB1.out.trans (hb2.mono HB1.out.size))
  obtain ⟨k2_0, k2_1, k2_2, k2_3, k2_4, k2_5, k2_6, k2_7, k2_8⟩ := HK.out.below HB2.out (by have := HSW.out; omega); rw [show ((8 : Nat) : Int) = 8 from rfl] at k2_1
  clear hb2 k1_0 k1_1 k1_2 k1_3 k1_4 k1_5 k1_6 k1_7 k1_8
  go_wp2_with fail
  (with_reducible refine (HB.out _).mono ?_)
  rintro e w_3 ⟨rfl, hb3⟩
  have HB3 : Hid (Below W.heap.size W w_3) := Lib.hid (HB2.out.trans (hb3.mono HB2.out.size))
  obtain ⟨k3_0, k3_1, k3_2, k3_3, k3_4, k3_5, k3_6, k3_7, k3_8⟩ := HK.out.below HB3.out (by have := HSW.out; omega); rw [show ((8 : Nat) : Int) = 8 from rfl] at k3_1
  clear hb3 k2_0 k2_1 k2_2 k2_3 k2_4 k2_5 k2_6 k2_7 k2_8
  go_wp2_with fail
  (with_reducible refine (HC.out _).mono ?_)
  rintro e w_4 ⟨rfl, hb4⟩
  have HB4 : Hid (Below W.heap.size W w_4) := Lib.hid (HB3.out.trans (hb4.mono HB3.out.size))
  obtain ⟨k4_0, k4_1, k4_2, k4_3, k4_4, k4_5, k4_6, k4_7, k4_8⟩ := HK.out.below HB4.out (by have := HSW.out; omega); rw [show ((8 : Nat) : Int) = 8 from rfl] at k4_1
  clear hb4 k3_0 k3_1 k3_2 k3_3 k3_4 k3_5 k3_6 k3_7 k3_8
  go_wp2_with fail
  go_ret
  exact ⟨rfl, HBW.out.trans (HB4.out.mono (by have := HSW.out; have := HSZ.out; omega))⟩

set_option maxHeartbeats 8000000 in
theorem shifts_8f (how n by_ x k A : Int) (hk : bits .and .i64 by_ 63 = k) (hk0 : 0 ≤ k) (hk1 : k < 64)
    (CT : ∀ w, Calls Try.prog 8 #[.int .i64 how] w (TypeIs 8 false w))
    (CX : ∀ w, Calls Try.prog 13 #[.agg #[.int .i64 1, .int .i64 8, .bool false, .bool false, .pointer none, .int .i64 0, .int .i64 0, .slice none 0 0, .pointer none], .int .i64 n] w (IntIs .i64 x w))
    (CA : ∀ w, Calls Try.prog 11 #[.string ⟨#[60, 60]⟩, .agg #[.int .i64 1, .int .i64 8, .bool false, .bool false, .pointer none, .int .i64 0, .int .i64 0, .slice none 0 0, .pointer none], .int .i64 x, .int .i64 by_] w  (PairIs A true w))
    (CB : ∀ w, Calls Try.prog 11 #[.string ⟨#[60, 60]⟩, .agg #[.int .i64 1, .int .i64 8, .bool false, .bool false, .pointer none, .int .i64 0, .int .i64 0, .slice none 0 0, .pointer none], .int .i64 x, .int .i64 k] w  (PairIs A true w))
    (CC : ∀ w, Calls Try.prog 11 #[.string ⟨#[62, 62]⟩, .agg #[.int .i64 1, .int .i64 8, .bool false, .bool false, .pointer none, .int .i64 0, .int .i64 0, .slice none 0 0, .pointer none], .int .i64 A, .int .i64 k] w  (PairIs (wrap64 (IntKind.u64.wrap (IntKind.u64.wrap x * 2 ^ (64 - (64 - k)).toNat) / 2 ^ (64 - (64 - k)).toNat)) true w))
    (w : World) : Calls Try.prog 6 #[.int .i64 how, .int .i64 n, .int .i64 by_] w (BoolIs true w) := by
  have HT := Lib.hid CT
  have HX := Lib.hid CX
  have HA := Lib.hid CA
  have HB := Lib.hid CB
  have HC := Lib.hid CC
  clear CT CX CA CB CC
  have e1 : 0 ≤ 64 - (64 - k) := by omega
  have e2 : 64 - (64 - k) ≤ 64 := by omega
  go_enter Try.func6, Try.ntmps6
  go_wp2_with fail
  refine (fit_law _).mono ?_
  rintro e w1 ⟨rfl, hb1⟩
  go_wp2_with fail
  refine (HT.out _).mono ?_
  rintro e w2 ⟨rfl, hb2⟩
  rw [show tV 8 false = .agg #[.int .i64 1, .int .i64 8, .bool false, .bool false, .pointer none, .int .i64 0, .int .i64 0, .slice none 0 0, .pointer none] from rfl]
  have HBA := Lib.hid (hb1.trans (hb2.mono hb1.size))
  clear hb1 hb2
  go_wp2_with fail
  generalize hW : w2.alloc _ = W
  have hbW : Below w.heap.size w W := by rw [← hW]; exact HBA.out.alloc HBA.out.size _
  have hsW : W.heap.size = w2.heap.size + 1 := by rw [← hW]; simp
  have HK : Hid (T9 W w2.heap.size 8 false) := Lib.hid (by rw [← hW]; exact t9_alloc w2 8 false _)
  have HBW := Lib.hid hbW
  have HSW := Lib.hid hsW
  have HSZ := Lib.hid (HBA.out.size)
  obtain ⟨k0_0, k0_1, k0_2, k0_3, k0_4, k0_5, k0_6, k0_7, k0_8⟩ := HK.out
  rw [show ((8 : Nat) : Int) = 8 from rfl] at k0_1
  clear hW hbW hsW HBA
  (with_reducible refine (HX.out _).mono ?_)
  rintro e w_1 ⟨rfl, hb1⟩
  have HB1 : Hid (Below W.heap.size W w_1) := Lib.hid ((Below.refl W.heap.size W).trans hb1)
  obtain ⟨k1_0, k1_1, k1_2, k1_3, k1_4, k1_5, k1_6, k1_7, k1_8⟩ := HK.out.below HB1.out (by have := HSW.out; omega); rw [show ((8 : Nat) : Int) = 8 from rfl] at k1_1
  clear hb1 k0_0 k0_1 k0_2 k0_3 k0_4 k0_5 k0_6 k0_7 k0_8
  go_wp2_with fail
  (with_reducible refine (HA.out _).mono ?_)
  rintro e w_2 ⟨rfl, hb2⟩
  have HB2 : Hid (Below W.heap.size W w_2) := Lib.hid (HB1.out.trans (hb2.mono HB1.out.size))
  obtain ⟨k2_0, k2_1, k2_2, k2_3, k2_4, k2_5, k2_6, k2_7, k2_8⟩ := HK.out.below HB2.out (by have := HSW.out; omega); rw [show ((8 : Nat) : Int) = 8 from rfl] at k2_1
  clear hb2 k1_0 k1_1 k1_2 k1_3 k1_4 k1_5 k1_6 k1_7 k1_8
  go_wp2_with fail
  (with_reducible refine (HB.out _).mono ?_)
  rintro e w_3 ⟨rfl, hb3⟩
  have HB3 : Hid (Below W.heap.size W w_3) := Lib.hid (HB2.out.trans (hb3.mono HB2.out.size))
  obtain ⟨k3_0, k3_1, k3_2, k3_3, k3_4, k3_5, k3_6, k3_7, k3_8⟩ := HK.out.below HB3.out (by have := HSW.out; omega); rw [show ((8 : Nat) : Int) = 8 from rfl] at k3_1
  clear hb3 k2_0 k2_1 k2_2 k2_3 k2_4 k2_5 k2_6 k2_7 k2_8
  go_wp2_with fail
  (with_reducible refine (HC.out _).mono ?_)
  rintro e w_4 ⟨rfl, hb4⟩
  have HB4 : Hid (Below W.heap.size W w_4) := Lib.hid (HB3.out.trans (hb4.mono HB3.out.size))
  obtain ⟨k4_0, k4_1, k4_2, k4_3, k4_4, k4_5, k4_6, k4_7, k4_8⟩ := HK.out.below HB4.out (by have := HSW.out; omega); rw [show ((8 : Nat) : Int) = 8 from rfl] at k4_1
  clear hb4 k3_0 k3_1 k3_2 k3_3 k3_4 k3_5 k3_6 k3_7 k3_8
  go_wp2_with fail
  go_ret
  exact ⟨rfl, HBW.out.trans (HB4.out.mono (by have := HSW.out; have := HSZ.out; omega))⟩

end Go.Proofs.Ytbflijjkdndefaa
