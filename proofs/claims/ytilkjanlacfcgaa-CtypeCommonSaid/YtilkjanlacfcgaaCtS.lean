import Derived.Test.YtilkjanlacfcgaaCtR
import Derived.Test.YtilkjanlacfcgaaCtI
import Derived.Test.YtilkjanlacfcgaaCtZ
import Derived.Test.YtilkjanlacfcgaaCtG
import Derived.Test.YtilkjanlacfcgaaCtP
namespace Go.Proofs.Ytilkjanlacfcgaa
open Go Go.RowKit
set_option linter.unusedVariables false
set_option linter.unusedSimpArgs false

/-- The nine cells of a box that holds an int's type. -/
structure I9 (w : World) (b : Nat) (n : Int) (s c : Bool) : Prop where
  c0 : w.cell? ⟨b, 0, none⟩ = some (.int .i64 1)
  c1 : w.cell? ⟨b, 1, none⟩ = some (.int .i64 n)
  c2 : w.cell? ⟨b, 2, none⟩ = some (.bool s)
  c3 : w.cell? ⟨b, 3, none⟩ = some (.bool c)
  c4 : w.cell? ⟨b, 4, none⟩ = some (.pointer none)
  c5 : w.cell? ⟨b, 5, none⟩ = some (.int .i64 0)
  c6 : w.cell? ⟨b, 6, none⟩ = some (.int .i64 0)
  c7 : w.cell? ⟨b, 7, none⟩ = some (.slice none 0 0)
  c8 : w.cell? ⟨b, 8, none⟩ = some (.pointer none)
theorem I9.below {w w' : World} {b : Nat} {n : Int} {s c : Bool} {lim : Nat} (h : I9 w b n s c) (hb : Below lim w w') (hl : b < lim) : I9 w' b n s c := by
  obtain ⟨h0, h1, h2, h3, h4, h5, h6, h7, h8⟩ := h
  constructor <;> (rw [hb.cell (by exact hl)]; assumption)
theorem i9_alloc (w : World) (n : Int) (s c : Bool) (ty : TypeId) : I9 (w.alloc (.cells #[.int .i64 1, .int .i64 n, .bool s, .bool c, .pointer none, .int .i64 0, .int .i64 0, .slice none 0 0, .pointer none] ty)) w.heap.size n s c := by
  constructor <;> simp
theorem takeD {P : Program} {ops : Array Oper} {Q : Exit → Act → World → Prop} {md : Region.Mode} {S : World → Prop} {i d : Nat} {oi : Oper} {v : Value} {fuel : Nat} {listed : Array Bool} {a : Act} {w : World} (hi : ops[i]? = some oi) (hd : oi.dst = some d)
    (hs : Region.noSelect ops = true) (hf : Region.free md ops listed i = true) (hr : (Region.ready md ops listed).contains i = true)
    (hQ : ∀ c a w, Q (.panic c) (a.put oi.dst v) w → Q (.panic c) a w) (hy : YieldsIf P ops S oi v a) (hS : S w)
    (h : wpAnyH P md ops Q S fuel (listed.setIfInBounds i true) (a.put (some d) v) w) : wpAnyH P md ops Q S (fuel + 1) listed a w :=
  wpAnyH_take hi hs hf hr hQ hy hS (by rw [hd]; exact h)
/-- The nine cells of a box that holds a pointer's type. -/
structure Q9 (w : World) (b g : Nat) : Prop where
  c0 : w.cell? ⟨b, 0, none⟩ = some (.int .i64 2)
  c1 : w.cell? ⟨b, 1, none⟩ = some (.int .i64 8)
  c2 : w.cell? ⟨b, 2, none⟩ = some (.bool false)
  c3 : w.cell? ⟨b, 3, none⟩ = some (.bool false)
  c4 : w.cell? ⟨b, 4, none⟩ = some (.pointer (some ⟨g, 0, none⟩))
  c5 : w.cell? ⟨b, 5, none⟩ = some (.int .i64 0)
  c6 : w.cell? ⟨b, 6, none⟩ = some (.int .i64 0)
  c7 : w.cell? ⟨b, 7, none⟩ = some (.slice none 0 0)
  c8 : w.cell? ⟨b, 8, none⟩ = some (.pointer none)
theorem Q9.below {w w' : World} {b g : Nat} {lim : Nat} (h : Q9 w b g) (hb : Below lim w w') (hl : b < lim) : Q9 w' b g := by
  obtain ⟨h0, h1, h2, h3, h4, h5, h6, h7, h8⟩ := h
  constructor <;> (rw [hb.cell (by exact hl)]; assumption)
theorem q9_alloc (w : World) (g : Nat) (ty : TypeId) : Q9 (w.alloc (.cells #[.int .i64 2, .int .i64 8, .bool false, .bool false, .pointer (some ⟨g, 0, none⟩), .int .i64 0, .int .i64 0, .slice none 0 0, .pointer none] ty)) w.heap.size g := by
  constructor <;> simp
/-- A pointer to an int's type, with what it points to. -/
def QIs (n : Int) (s c : Bool) (w : World) (e : Ending) (w' : World) : Prop := ∃ g, e = .returned (.agg #[.int .i64 2, .int .i64 8, .bool false, .bool false, .pointer (some ⟨g, 0, none⟩), .int .i64 0, .int .i64 0, .slice none 0 0, .pointer none]) ∧ g < w'.heap.size ∧ I9 w' g n s c ∧ Below w.heap.size w w'
/-- A type's contract, written out. -/
def AggIs (n : Int) (s c : Bool) (w : World) (e : Ending) (w' : World) : Prop := e = .returned (.agg #[.int .i64 1, .int .i64 n, .bool s, .bool c, .pointer none, .int .i64 0, .int .i64 0, .slice none 0 0, .pointer none]) ∧ Below w.heap.size w w'
def BoolIs (r : Bool) (w : World) (e : Ending) (w' : World) : Prop := e = .returned (.bool r) ∧ Below w.heap.size w w'


theorem i9_of {w : World} {b : Nat} {n : Int} {s c : Bool} (h : Cells9 w b 0 (.int n s c) none) : I9 w b n s c := by
  obtain ⟨h0, h1, h2, h3, h4, h5, h6, h7, h8⟩ := h
  simp only [Nat.zero_add, Ty.kind, Ty.size, Ty.sg, Ty.sc, Ty.len, Ty.num] at h0 h1 h2 h3 h4 h5 h6 h7 h8
  exact ⟨h0, h1, h2, h3, h4, h5, h6, h7, h8⟩
theorem i9_to {w : World} {b : Nat} {n : Int} {s c : Bool} (h : I9 w b n s c) : Cells9 w b 0 (.int n s c) none := by
  obtain ⟨h0, h1, h2, h3, h4, h5, h6, h7, h8⟩ := h
  constructor <;> (simp only [Nat.zero_add, Ty.kind, Ty.size, Ty.sg, Ty.sc, Ty.len, Ty.num]; assumption)
theorem elat_of {w : World} {g : Nat} {n : Int} {s c : Bool} (hg : g < w.heap.size) (h : I9 w g n s c) : ElAt w 0 w.heap.size (.ptr (.int n s c)) (some ⟨g, 0, none⟩) :=
  ⟨g, none, rfl, Nat.zero_le _, hg, i9_to h, rfl⟩
theorem qis_of {n : Int} {s c : Bool} {w w' : World} {lo : Nat} {el : Option Addr} (h : ElAt w' lo w'.heap.size (.ptr (.int n s c)) el) (hb : Below w.heap.size w w') : QIs n s c w (.returned (tyV (.ptr (.int n s c)) el)) w' := by
  obtain ⟨b, e, rfl, h1, h2, h3, h4⟩ := h
  obtain rfl : e = none := h4
  exact ⟨b, rfl, h2, i9_of h3, hb⟩
theorem ptr_is (n : Int) (s c : Bool) (w : World) : Calls Try.prog 17 #[tyV (.int n s c) none] w (QIs n s c w) :=
  (ptrTo_any (.int n s c) none w w.heap.size (Nat.le_refl _) rfl).mono fun e w' ⟨el, he, hE, hb⟩ => by subst he; exact qis_of hE hb
theorem prq_is (n : Int) (s c : Bool) (g : Nat) (w : World) (hg : g < w.heap.size) (h : I9 w g n s c) : Calls Try.prog 15 #[tyV (.ptr (.int n s c)) (some ⟨g, 0, none⟩)] w (QIs n s c w) :=
  (promote_fresh (.ptr (.int n s c)) rfl _ w (elat_of hg h)).mono fun e w' ⟨el, he, hE, hb⟩ => by subst he; exact qis_of hE hb
theorem seq_is (n : Int) (s c : Bool) (g : Nat) (w : World) (hg : g < w.heap.size) (h : I9 w g n s c) : Calls Try.prog 19 #[tyV (.ptr (.int n s c)) (some ⟨g, 0, none⟩)] w (QIs n s c w) :=
  (secret_fresh (.ptr (.int n s c)) rfl rfl _ w (elat_of hg h)).mono fun e w' ⟨el, he, hE, hb⟩ => by subst he; exact qis_of hE hb
theorem same_true (n : Int) (s c : Bool) (w : World) : Calls Try.prog 12 #[tyV (.int n s c) none, tyV (.int n s c) none] w (BoolIs true w) := by
  have h := same_int n s c n s c w
  rw [show (n == n && (s == s && c == c)) = true by simp] at h
  exact h
theorem sameq_is (n : Int) (s c : Bool) (g h : Nat) (w : World) (hg : g < w.heap.size) (hh : h < w.heap.size) (ig : I9 w g n s c) (ih : I9 w h n s c) : Calls Try.prog 12 #[tyV (.ptr (.int n s c)) (some ⟨g, 0, none⟩), tyV (.ptr (.int n s c)) (some ⟨h, 0, none⟩)] w (BoolIs true w) := by
  have h := same_any (.ptr (.int n s c)) (.ptr (.int n s c)) _ _ w (elat_of hg ig) (elat_of hh ih)
  rw [show sameT (.ptr (.int n s c)) (.ptr (.int n s c)) = true by simp [sameT]] at h
  exact h
theorem com_eq (n m : Int) (s t : Bool) (hn : IntSz n) (hm : IntSz m) : comN (prN n) (prN m) = rN n m ∧ comS (prN n) (prN m) (prS n s) (prS m t) = rS n m s t ∧ comN (prN m) (prN n) = rN n m ∧ comS (prN m) (prN n) (prS m t) (prS n s) = rS n m s t := by
  rcases hn with rfl | rfl | rfl | rfl <;> rcases hm with rfl | rfl | rfl | rfl <;> cases s <;> cases t <;> decide
theorem com_facts (n m : Int) (s c t d : Bool) (hn : IntSz n) (hm : IntSz m) : ∃ k u v, (∀ w, Calls Try.prog 14 #[tyV (.int n s c) none, tyV (.int m t d) none] w (AggIs k u v w)) ∧
    (∀ w, Calls Try.prog 16 #[tyV (.int n s c) none, tyV (.int m t d) none] w (AggIs k u v w)) ∧
    (∀ w, Calls Try.prog 14 #[tyV (.int m t d) none, tyV (.int n s c) none] w (AggIs k u v w)) := by
  obtain ⟨e1, e2, e3, e4⟩ := com_eq n m s t hn hm
  refine ⟨rN n m, rS n m s t, c || d, fun w => ?_, fun w => ?_, fun w => ?_⟩
  · have h := common_core n s c m t d (prN n) (prS n s) (prN m) (prS m t) (promote_int n s c) (promote_int m t d) w
    rw [e1, e2] at h
    exact h
  · exact rcommon_any n s c m t d w
  · have h := common_core m t d n s c (prN m) (prS m t) (prN n) (prS n s) (promote_int m t d) (promote_int n s c) w
    rw [e3, e4, Bool.or_comm d c] at h
    exact h

set_option maxRecDepth 100000 in
set_option maxHeartbeats 40000000 in
theorem common_law (a : Int) (_ : (Lit.int .i64 a).wf = true) (b : Int) (_ : (Lit.int .i64 b).wf = true) (w : World) : Calls Try.prog 4 #[.int .i64 a, .int .i64 b] w (BoolIs true w) := by
  go_enter Try.func4, Try.ntmps4
  go_wp2_with fail
  refine (fit_any _).mono ?_
  rintro e w1 ⟨rfl, hb1⟩
  have HB1 := Lib.hid hb1
  clear hb1
  go_wp2_with fail
  refine (type_int _ _).mono ?_
  rintro e w2 ⟨n, s, c, hn, rfl, hb2⟩
  have HB2 := Lib.hid (HB1.out.trans (hb2.mono HB1.out.size))
  have HN := Lib.hid hn
  rw [tyV_int]
  clear hb2 hn
  go_wp2_with fail
  generalize hW : w2.alloc _ = V1
  have HKx : Hid (I9 V1 w2.heap.size n s c) := Lib.hid (by rw [← hW]; exact i9_alloc w2 n s c _)
  have HBV1 : Hid (Below w.heap.size w V1) := Lib.hid (by rw [← hW]; exact HB2.out.alloc HB2.out.size _)
  have HSV1 : Hid (V1.heap.size = w2.heap.size + 1) := Lib.hid (by rw [← hW]; simp)
  clear hW
  refine (type_int _ _).mono ?_
  rintro e w3 ⟨m, t, d, hm, rfl, hb3⟩
  have HM := Lib.hid hm
  rw [tyV_int]
  clear hm
  have HB3 := Lib.hid (HBV1.out.trans (hb3.mono HBV1.out.size))
  have HZx3 : Hid (w2.heap.size < w3.heap.size) := Lib.hid (by have := hb3.size; have := HSV1.out; omega)
  have HKx3 : Hid (I9 w3 w2.heap.size n s c) := Lib.hid (HKx.out.below hb3 (by have := HSV1.out; omega))
  clear hb3
  obtain ⟨x2_0, x2_1, x2_2, x2_3, x2_4, x2_5, x2_6, x2_7, x2_8⟩ := HKx3.out
  have hx3 : w2.heap.size < w3.heap.size := HZx3.out
  go_wp2_with fail
  generalize hW : w3.alloc _ = V2
  have HKy : Hid (I9 V2 w3.heap.size m t d) := Lib.hid (by rw [← hW]; exact i9_alloc w3 m t d _)
  have HBV2 : Hid (Below w.heap.size w V2) := Lib.hid (by rw [← hW]; exact HB3.out.alloc HB3.out.size _)
  have HSV2 : Hid (V2.heap.size = w3.heap.size + 1) := Lib.hid (by rw [← hW]; simp)
  have HKx_V2 : Hid (I9 V2 w2.heap.size n s c) := Lib.hid (HKx3.out.below (lim := w3.heap.size) (by rw [← hW]; exact (Below.refl _ _).alloc (Nat.le_refl _) _) (HZx3.out))
  clear hW
  obtain ⟨k, u, v, C1, C2, C3⟩ := com_facts n m s c t d HN.out HM.out
  rcases HN.out with rfl | rfl | rfl | rfl
  · have H1 := Lib.hid (show ∀ w, Calls Try.prog 14 #[.agg #[.int .i64 1, .int .i64 1, .bool s, .bool c, .pointer none, .int .i64 0, .int .i64 0, .slice none 0 0, .pointer none], .agg #[.int .i64 1, .int .i64 m, .bool t, .bool d, .pointer none, .int .i64 0, .int .i64 0, .slice none 0 0, .pointer none]] w (AggIs k u v w) from C1)
    have H2 := Lib.hid (show ∀ w, Calls Try.prog 16 #[.agg #[.int .i64 1, .int .i64 1, .bool s, .bool c, .pointer none, .int .i64 0, .int .i64 0, .slice none 0 0, .pointer none], .agg #[.int .i64 1, .int .i64 m, .bool t, .bool d, .pointer none, .int .i64 0, .int .i64 0, .slice none 0 0, .pointer none]] w (AggIs k u v w) from C2)
    have H3 := Lib.hid (show ∀ w, Calls Try.prog 14 #[.agg #[.int .i64 1, .int .i64 m, .bool t, .bool d, .pointer none, .int .i64 0, .int .i64 0, .slice none 0 0, .pointer none], .agg #[.int .i64 1, .int .i64 1, .bool s, .bool c, .pointer none, .int .i64 0, .int .i64 0, .slice none 0 0, .pointer none]] w (AggIs k u v w) from C3)
    have HP := Lib.hid (show ∀ w, Calls Try.prog 15 #[.agg #[.int .i64 1, .int .i64 1, .bool s, .bool c, .pointer none, .int .i64 0, .int .i64 0, .slice none 0 0, .pointer none]] w (AggIs 4 true c w) from promote_int 1 s c)
    have HS := Lib.hid (show ∀ w, Calls Try.prog 12 #[.agg #[.int .i64 1, .int .i64 k, .bool u, .bool v, .pointer none, .int .i64 0, .int .i64 0, .slice none 0 0, .pointer none], .agg #[.int .i64 1, .int .i64 k, .bool u, .bool v, .pointer none, .int .i64 0, .int .i64 0, .slice none 0 0, .pointer none]] w (BoolIs true w) from same_true k u v)
    have HSX := Lib.hid (show ∀ w, Calls Try.prog 12 #[.agg #[.int .i64 1, .int .i64 1, .bool s, .bool c, .pointer none, .int .i64 0, .int .i64 0, .slice none 0 0, .pointer none], .agg #[.int .i64 1, .int .i64 1, .bool s, .bool c, .pointer none, .int .i64 0, .int .i64 0, .slice none 0 0, .pointer none]] w (BoolIs true w) from same_true 1 s c)
    have HQ := Lib.hid (show ∀ w, Calls Try.prog 17 #[.agg #[.int .i64 1, .int .i64 1, .bool s, .bool c, .pointer none, .int .i64 0, .int .i64 0, .slice none 0 0, .pointer none]] w (QIs 1 s c w) from ptr_is 1 s c)
    have HPQ := Lib.hid (show ∀ g w, g < w.heap.size → I9 w g 1 s c → Calls Try.prog 15 #[.agg #[.int .i64 2, .int .i64 8, .bool false, .bool false, .pointer (some ⟨g, 0, none⟩), .int .i64 0, .int .i64 0, .slice none 0 0, .pointer none]] w (QIs 1 s c w) from prq_is 1 s c)
    have HSQ := Lib.hid (show ∀ g h w, g < w.heap.size → h < w.heap.size → I9 w g 1 s c → I9 w h 1 s c → Calls Try.prog 12 #[.agg #[.int .i64 2, .int .i64 8, .bool false, .bool false, .pointer (some ⟨g, 0, none⟩), .int .i64 0, .int .i64 0, .slice none 0 0, .pointer none], .agg #[.int .i64 2, .int .i64 8, .bool false, .bool false, .pointer (some ⟨h, 0, none⟩), .int .i64 0, .int .i64 0, .slice none 0 0, .pointer none]] w (BoolIs true w) from sameq_is 1 s c)
    have HO := Lib.hid (show ∀ w, Calls Try.prog 18 #[.agg #[.int .i64 1, .int .i64 1, .bool s, .bool c, .pointer none, .int .i64 0, .int .i64 0, .slice none 0 0, .pointer none]] w (AggIs 1 s false w) from open_int 1 s c)
    have HE := Lib.hid (show ∀ w, Calls Try.prog 19 #[.agg #[.int .i64 1, .int .i64 1, .bool s, .bool c, .pointer none, .int .i64 0, .int .i64 0, .slice none 0 0, .pointer none]] w (AggIs 1 s true w) from secret_int 1 s c)
    have HEQ := Lib.hid (show ∀ g w, g < w.heap.size → I9 w g 1 s c → Calls Try.prog 19 #[.agg #[.int .i64 2, .int .i64 8, .bool false, .bool false, .pointer (some ⟨g, 0, none⟩), .int .i64 0, .int .i64 0, .slice none 0 0, .pointer none]] w (QIs 1 s c w) from seq_is 1 s c)
    clear C1 C2 C3
    have LX2 : Hid (w2.heap.size < V2.heap.size) := Lib.hid (by have := HZx3.out; have := HSV2.out; omega)
    have LY2 : Hid (w3.heap.size < V2.heap.size) := Lib.hid (by have := HSV2.out; omega)
    clear hx3 x2_0 x2_1 x2_2 x2_3 x2_4 x2_5 x2_6 x2_7 x2_8
    (with_reducible refine (H1.out _).mono ?_)
    rintro e w4 ⟨rfl, hb4⟩
    have HB4 := Lib.hid (HBV2.out.trans (hb4.mono HBV2.out.size))
    have HKx4 : Hid (I9 w4 w2.heap.size 1 s c) := Lib.hid (HKx_V2.out.below hb4 LX2.out)
    have HKy4 : Hid (I9 w4 w3.heap.size m t d) := Lib.hid (HKy.out.below hb4 LY2.out)
    have LX4 : Hid (w2.heap.size < w4.heap.size) := Lib.hid (by have := hb4.size; have := LX2.out; omega)
    have LY4 : Hid (w3.heap.size < w4.heap.size) := Lib.hid (by have := hb4.size; have := LY2.out; omega)
    clear hb4
    obtain ⟨x3_0, x3_1, x3_2, x3_3, x3_4, x3_5, x3_6, x3_7, x3_8⟩ := HKx4.out
    have hx4 : w2.heap.size < w4.heap.size := LX4.out
    go_wp2_with fail
    generalize hW : w4.alloc _ = V3
    have HKz : Hid (I9 V3 w4.heap.size k u v) := Lib.hid (by rw [← hW]; exact i9_alloc w4 k u v _)
    have HBV3 : Hid (Below w.heap.size w V3) := Lib.hid (by rw [← hW]; exact HB4.out.alloc HB4.out.size _)
    have HSV3 : Hid (V3.heap.size = w4.heap.size + 1) := Lib.hid (by rw [← hW]; simp)
    have HKx_V3 : Hid (I9 V3 w2.heap.size 1 s c) := Lib.hid (HKx4.out.below (lim := w4.heap.size) (by rw [← hW]; exact (Below.refl _ _).alloc (Nat.le_refl _) _) (LX4.out))
    have HKy_V3 : Hid (I9 V3 w3.heap.size m t d) := Lib.hid (HKy4.out.below (lim := w4.heap.size) (by rw [← hW]; exact (Below.refl _ _).alloc (Nat.le_refl _) _) (LY4.out))
    clear hW
    have LX3 : Hid (w2.heap.size < V3.heap.size) := Lib.hid (by have := LX4.out; have := HSV3.out; omega)
    have LY3 : Hid (w3.heap.size < V3.heap.size) := Lib.hid (by have := LY4.out; have := HSV3.out; omega)
    have LZ3 : Hid (w4.heap.size < V3.heap.size) := Lib.hid (by have := HSV3.out; omega)
    clear hx4 x3_0 x3_1 x3_2 x3_3 x3_4 x3_5 x3_6 x3_7 x3_8
    (with_reducible refine (HP.out _).mono ?_)
    rintro e w5 ⟨rfl, hb5⟩
    have HB5 := Lib.hid (HBV3.out.trans (hb5.mono HBV3.out.size))
    have HKx5 : Hid (I9 w5 w2.heap.size 1 s c) := Lib.hid (HKx_V3.out.below hb5 LX3.out)
    have HKy5 : Hid (I9 w5 w3.heap.size m t d) := Lib.hid (HKy_V3.out.below hb5 LY3.out)
    have HKz5 : Hid (I9 w5 w4.heap.size k u v) := Lib.hid (HKz.out.below hb5 LZ3.out)
    have LX5 : Hid (w2.heap.size < w5.heap.size) := Lib.hid (by have := hb5.size; have := LX3.out; omega)
    have LY5 : Hid (w3.heap.size < w5.heap.size) := Lib.hid (by have := hb5.size; have := LY3.out; omega)
    have LZ5 : Hid (w4.heap.size < w5.heap.size) := Lib.hid (by have := hb5.size; have := LZ3.out; omega)
    clear hb5
    go_wp2_with fail
    generalize hW : w5.alloc _ = V4
    have HKp : Hid (I9 V4 w5.heap.size 4 true c) := Lib.hid (by rw [← hW]; exact i9_alloc w5 4 true c _)
    have HBV4 : Hid (Below w.heap.size w V4) := Lib.hid (by rw [← hW]; exact HB5.out.alloc HB5.out.size _)
    have HSV4 : Hid (V4.heap.size = w5.heap.size + 1) := Lib.hid (by rw [← hW]; simp)
    have HKx_V4 : Hid (I9 V4 w2.heap.size 1 s c) := Lib.hid (HKx5.out.below (lim := w5.heap.size) (by rw [← hW]; exact (Below.refl _ _).alloc (Nat.le_refl _) _) (LX5.out))
    have HKy_V4 : Hid (I9 V4 w3.heap.size m t d) := Lib.hid (HKy5.out.below (lim := w5.heap.size) (by rw [← hW]; exact (Below.refl _ _).alloc (Nat.le_refl _) _) (LY5.out))
    have HKz_V4 : Hid (I9 V4 w4.heap.size k u v) := Lib.hid (HKz5.out.below (lim := w5.heap.size) (by rw [← hW]; exact (Below.refl _ _).alloc (Nat.le_refl _) _) (LZ5.out))
    clear hW
    have LX : Hid (w2.heap.size < V4.heap.size) := Lib.hid (by have := LX5.out; have := HSV4.out; omega)
    have LY : Hid (w3.heap.size < V4.heap.size) := Lib.hid (by have := LY5.out; have := HSV4.out; omega)
    have LZ : Hid (w4.heap.size < V4.heap.size) := Lib.hid (by have := LZ5.out; have := HSV4.out; omega)
    have LP : Hid (w5.heap.size < V4.heap.size) := Lib.hid (by have := HSV4.out; omega)
    obtain ⟨x0_0, x0_1, x0_2, x0_3, x0_4, x0_5, x0_6, x0_7, x0_8⟩ := HKx_V4.out
    obtain ⟨y0_0, y0_1, y0_2, y0_3, y0_4, y0_5, y0_6, y0_7, y0_8⟩ := HKy_V4.out
    obtain ⟨z0_0, z0_1, z0_2, z0_3, z0_4, z0_5, z0_6, z0_7, z0_8⟩ := HKz_V4.out
    obtain ⟨p0_0, p0_1, p0_2, p0_3, p0_4, p0_5, p0_6, p0_7, p0_8⟩ := HKp.out
    refine wp_region_held_drew (S := (fun w' => w'.cell? ⟨w2.heap.size, 0, none⟩ = some (.int .i64 1) ∧ w'.cell? ⟨w2.heap.size, 1, none⟩ = some (.int .i64 1) ∧ w'.cell? ⟨w2.heap.size, 2, none⟩ = some (.bool s) ∧ w'.cell? ⟨w2.heap.size, 3, none⟩ = some (.bool c) ∧ w'.cell? ⟨w2.heap.size, 4, none⟩ = some (.pointer none) ∧ w'.cell? ⟨w2.heap.size, 5, none⟩ = some (.int .i64 0) ∧ w'.cell? ⟨w2.heap.size, 6, none⟩ = some (.int .i64 0) ∧ w'.cell? ⟨w2.heap.size, 7, none⟩ = some (.slice none 0 0) ∧ w'.cell? ⟨w2.heap.size, 8, none⟩ = some (.pointer none) ∧ w'.cell? ⟨w3.heap.size, 0, none⟩ = some (.int .i64 1) ∧ w'.cell? ⟨w3.heap.size, 1, none⟩ = some (.int .i64 m) ∧ w'.cell? ⟨w3.heap.size, 2, none⟩ = some (.bool t) ∧ w'.cell? ⟨w3.heap.size, 3, none⟩ = some (.bool d) ∧ w'.cell? ⟨w3.heap.size, 4, none⟩ = some (.pointer none) ∧ w'.cell? ⟨w3.heap.size, 5, none⟩ = some (.int .i64 0) ∧ w'.cell? ⟨w3.heap.size, 6, none⟩ = some (.int .i64 0) ∧ w'.cell? ⟨w3.heap.size, 7, none⟩ = some (.slice none 0 0) ∧ w'.cell? ⟨w3.heap.size, 8, none⟩ = some (.pointer none) ∧ w'.cell? ⟨w4.heap.size, 0, none⟩ = some (.int .i64 1) ∧ w'.cell? ⟨w4.heap.size, 1, none⟩ = some (.int .i64 k) ∧ w'.cell? ⟨w4.heap.size, 2, none⟩ = some (.bool u) ∧ w'.cell? ⟨w4.heap.size, 3, none⟩ = some (.bool v) ∧ w'.cell? ⟨w4.heap.size, 4, none⟩ = some (.pointer none) ∧ w'.cell? ⟨w4.heap.size, 5, none⟩ = some (.int .i64 0) ∧ w'.cell? ⟨w4.heap.size, 6, none⟩ = some (.int .i64 0) ∧ w'.cell? ⟨w4.heap.size, 7, none⟩ = some (.slice none 0 0) ∧ w'.cell? ⟨w4.heap.size, 8, none⟩ = some (.pointer none) ∧ w'.cell? ⟨w5.heap.size, 0, none⟩ = some (.int .i64 1) ∧ w'.cell? ⟨w5.heap.size, 1, none⟩ = some (.int .i64 4) ∧ w'.cell? ⟨w5.heap.size, 2, none⟩ = some (.bool true) ∧ w'.cell? ⟨w5.heap.size, 3, none⟩ = some (.bool c) ∧ w'.cell? ⟨w5.heap.size, 4, none⟩ = some (.pointer none) ∧ w'.cell? ⟨w5.heap.size, 5, none⟩ = some (.int .i64 0) ∧ w'.cell? ⟨w5.heap.size, 6, none⟩ = some (.int .i64 0) ∧ w'.cell? ⟨w5.heap.size, 7, none⟩ = some (.slice none 0 0) ∧ w'.cell? ⟨w5.heap.size, 8, none⟩ = some (.pointer none))) (by kernel_rfl) (by go_keep) (fun hHeld => ?_)
    refine takeD (i := 0) (d := 33) (v := ?_) rfl rfl (by kernel_rfl) (by kernel_rfl) (by kernel_rfl) (fun _ _ _ h => h) (Or.inl ⟨by rfl, ?_⟩) (by assumption) ?_
    rotate_left
    · intro w hSw
      (try dsimp only at hSw)
      go_simp
      (try with_reducible rfl)
    (try simp only [Act.put, List.setIfInBounds_toArray, List.set_cons_zero, List.set_cons_succ])
    refine takeD (i := 1) (d := 34) (v := ?_) rfl rfl (by kernel_rfl) (by kernel_rfl) (by kernel_rfl) (fun _ _ _ h => h) (Or.inl ⟨by rfl, ?_⟩) (by assumption) ?_
    rotate_left
    · intro w hSw
      (try dsimp only at hSw)
      go_simp
      (try with_reducible rfl)
    (try simp only [Act.put, List.setIfInBounds_toArray, List.set_cons_zero, List.set_cons_succ])
    refine takeD (i := 2) (d := 35) (v := ?_) rfl rfl (by kernel_rfl) (by kernel_rfl) (by kernel_rfl) (fun _ _ _ h => h) (Or.inl ⟨by rfl, ?_⟩) (by assumption) ?_
    rotate_left
    · intro w hSw
      (try dsimp only at hSw)
      go_simp
      (try with_reducible rfl)
    (try simp only [Act.put, List.setIfInBounds_toArray, List.set_cons_zero, List.set_cons_succ])
    refine wpAnyH_ready (rs := [3]) (by kernel_rfl) (by simp) ?_
    refine AllReadyH.cons rfl (fun K hK => ?_) AllReadyH.nil
    go_simp
    go_at_call 16
    (with_reducible refine (H2.out _).mono ?_)
    rintro e u_1 ⟨rfl, hb1⟩
    have HC1 : Hid (Below V4.heap.size V4 u_1) := Lib.hid ((Below.refl V4.heap.size V4).drew.trans hb1)
    obtain ⟨x1_0, x1_1, x1_2, x1_3, x1_4, x1_5, x1_6, x1_7, x1_8⟩ := HKx_V4.out.below HC1.out LX.out
    obtain ⟨y1_0, y1_1, y1_2, y1_3, y1_4, y1_5, y1_6, y1_7, y1_8⟩ := HKy_V4.out.below HC1.out LY.out
    obtain ⟨z1_0, z1_1, z1_2, z1_3, z1_4, z1_5, z1_6, z1_7, z1_8⟩ := HKz_V4.out.below HC1.out LZ.out
    obtain ⟨p1_0, p1_1, p1_2, p1_3, p1_4, p1_5, p1_6, p1_7, p1_8⟩ := HKp.out.below HC1.out LP.out
    clear hb1 x0_0 x0_1 x0_2 x0_3 x0_4 x0_5 x0_6 x0_7 x0_8 y0_0 y0_1 y0_2 y0_3 y0_4 y0_5 y0_6 y0_7 y0_8 z0_0 z0_1 z0_2 z0_3 z0_4 z0_5 z0_6 z0_7 z0_8 p0_0 p0_1 p0_2 p0_3 p0_4 p0_5 p0_6 p0_7 p0_8
    refine hK.out _ _ ?_ (fun hHeld2 => ?_)
    · go_keep
    clear hHeld hK K
    have hHeld := hHeld2
    clear hHeld2
    (try simp only [Act.put, List.setIfInBounds_toArray, List.set_cons_zero, List.set_cons_succ])
    refine wpAnyH_ready (rs := [4]) (by kernel_rfl) (by simp) ?_
    refine AllReadyH.cons rfl (fun K hK => ?_) AllReadyH.nil
    go_simp
    go_at_call 12
    (with_reducible refine (HS.out _).mono ?_)
    rintro e u_2 ⟨rfl, hb2⟩
    have HC2 : Hid (Below V4.heap.size V4 u_2) := Lib.hid (HC1.out.trans (hb2.mono HC1.out.size))
    obtain ⟨x2_0, x2_1, x2_2, x2_3, x2_4, x2_5, x2_6, x2_7, x2_8⟩ := HKx_V4.out.below HC2.out LX.out
    obtain ⟨y2_0, y2_1, y2_2, y2_3, y2_4, y2_5, y2_6, y2_7, y2_8⟩ := HKy_V4.out.below HC2.out LY.out
    obtain ⟨z2_0, z2_1, z2_2, z2_3, z2_4, z2_5, z2_6, z2_7, z2_8⟩ := HKz_V4.out.below HC2.out LZ.out
    obtain ⟨p2_0, p2_1, p2_2, p2_3, p2_4, p2_5, p2_6, p2_7, p2_8⟩ := HKp.out.below HC2.out LP.out
    clear hb2 x1_0 x1_1 x1_2 x1_3 x1_4 x1_5 x1_6 x1_7 x1_8 y1_0 y1_1 y1_2 y1_3 y1_4 y1_5 y1_6 y1_7 y1_8 z1_0 z1_1 z1_2 z1_3 z1_4 z1_5 z1_6 z1_7 z1_8 p1_0 p1_1 p1_2 p1_3 p1_4 p1_5 p1_6 p1_7 p1_8
    refine hK.out _ _ ?_ (fun hHeld2 => ?_)
    · go_keep
    clear hHeld hK K
    have hHeld := hHeld2
    clear hHeld2
    (try simp only [Act.put, List.setIfInBounds_toArray, List.set_cons_zero, List.set_cons_succ])
    refine takeD (i := 5) (d := 38) (v := ?_) rfl rfl (by kernel_rfl) (by kernel_rfl) (by kernel_rfl) (fun _ _ _ h => h) (Or.inl ⟨by rfl, ?_⟩) (by assumption) ?_
    rotate_left
    · intro w hSw
      (try dsimp only at hSw)
      go_simp
      (try with_reducible rfl)
    (try simp only [Act.put, List.setIfInBounds_toArray, List.set_cons_zero, List.set_cons_succ])
    refine takeD (i := 6) (d := 39) (v := ?_) rfl rfl (by kernel_rfl) (by kernel_rfl) (by kernel_rfl) (fun _ _ _ h => h) (Or.inl ⟨by rfl, ?_⟩) (by assumption) ?_
    rotate_left
    · intro w hSw
      (try dsimp only at hSw)
      go_simp
      (try with_reducible rfl)
    (try simp only [Act.put, List.setIfInBounds_toArray, List.set_cons_zero, List.set_cons_succ])
    refine takeD (i := 7) (d := 40) (v := ?_) rfl rfl (by kernel_rfl) (by kernel_rfl) (by kernel_rfl) (fun _ _ _ h => h) (Or.inl ⟨by rfl, ?_⟩) (by assumption) ?_
    rotate_left
    · intro w hSw
      (try dsimp only at hSw)
      go_simp
      (try with_reducible rfl)
    (try simp only [Act.put, List.setIfInBounds_toArray, List.set_cons_zero, List.set_cons_succ])
    refine takeD (i := 8) (d := 41) (v := ?_) rfl rfl (by kernel_rfl) (by kernel_rfl) (by kernel_rfl) (fun _ _ _ h => h) (Or.inl ⟨by rfl, ?_⟩) (by assumption) ?_
    rotate_left
    · intro w hSw
      (try dsimp only at hSw)
      go_simp
      (try with_reducible rfl)
    (try simp only [Act.put, List.setIfInBounds_toArray, List.set_cons_zero, List.set_cons_succ])
    refine takeD (i := 9) (d := 42) (v := ?_) rfl rfl (by kernel_rfl) (by kernel_rfl) (by kernel_rfl) (fun _ _ _ h => h) (Or.inl ⟨by rfl, ?_⟩) (by assumption) ?_
    rotate_left
    · intro w hSw
      (try dsimp only at hSw)
      go_simp
      (try with_reducible rfl)
    (try simp only [Act.put, List.setIfInBounds_toArray, List.set_cons_zero, List.set_cons_succ])
    refine wpAnyH_ready (rs := [10]) (by kernel_rfl) (by simp) ?_
    refine AllReadyH.cons rfl (fun K hK => ?_) AllReadyH.nil
    go_simp
    go_at_call 14
    (with_reducible refine (H3.out _).mono ?_)
    rintro e u_3 ⟨rfl, hb3⟩
    have HC3 : Hid (Below V4.heap.size V4 u_3) := Lib.hid (HC2.out.trans (hb3.mono HC2.out.size))
    obtain ⟨x3_0, x3_1, x3_2, x3_3, x3_4, x3_5, x3_6, x3_7, x3_8⟩ := HKx_V4.out.below HC3.out LX.out
    obtain ⟨y3_0, y3_1, y3_2, y3_3, y3_4, y3_5, y3_6, y3_7, y3_8⟩ := HKy_V4.out.below HC3.out LY.out
    obtain ⟨z3_0, z3_1, z3_2, z3_3, z3_4, z3_5, z3_6, z3_7, z3_8⟩ := HKz_V4.out.below HC3.out LZ.out
    obtain ⟨p3_0, p3_1, p3_2, p3_3, p3_4, p3_5, p3_6, p3_7, p3_8⟩ := HKp.out.below HC3.out LP.out
    clear hb3 x2_0 x2_1 x2_2 x2_3 x2_4 x2_5 x2_6 x2_7 x2_8 y2_0 y2_1 y2_2 y2_3 y2_4 y2_5 y2_6 y2_7 y2_8 z2_0 z2_1 z2_2 z2_3 z2_4 z2_5 z2_6 z2_7 z2_8 p2_0 p2_1 p2_2 p2_3 p2_4 p2_5 p2_6 p2_7 p2_8
    refine hK.out _ _ ?_ (fun hHeld2 => ?_)
    · go_keep
    clear hHeld hK K
    have hHeld := hHeld2
    clear hHeld2
    (try simp only [Act.put, List.setIfInBounds_toArray, List.set_cons_zero, List.set_cons_succ])
    refine wpAnyH_ready (rs := [11]) (by kernel_rfl) (by simp) ?_
    refine AllReadyH.cons rfl (fun K hK => ?_) AllReadyH.nil
    go_simp
    go_at_call 12
    (with_reducible refine (HS.out _).mono ?_)
    rintro e u_4 ⟨rfl, hb4⟩
    have HC4 : Hid (Below V4.heap.size V4 u_4) := Lib.hid (HC3.out.trans (hb4.mono HC3.out.size))
    obtain ⟨x4_0, x4_1, x4_2, x4_3, x4_4, x4_5, x4_6, x4_7, x4_8⟩ := HKx_V4.out.below HC4.out LX.out
    obtain ⟨y4_0, y4_1, y4_2, y4_3, y4_4, y4_5, y4_6, y4_7, y4_8⟩ := HKy_V4.out.below HC4.out LY.out
    obtain ⟨z4_0, z4_1, z4_2, z4_3, z4_4, z4_5, z4_6, z4_7, z4_8⟩ := HKz_V4.out.below HC4.out LZ.out
    obtain ⟨p4_0, p4_1, p4_2, p4_3, p4_4, p4_5, p4_6, p4_7, p4_8⟩ := HKp.out.below HC4.out LP.out
    clear hb4 x3_0 x3_1 x3_2 x3_3 x3_4 x3_5 x3_6 x3_7 x3_8 y3_0 y3_1 y3_2 y3_3 y3_4 y3_5 y3_6 y3_7 y3_8 z3_0 z3_1 z3_2 z3_3 z3_4 z3_5 z3_6 z3_7 z3_8 p3_0 p3_1 p3_2 p3_3 p3_4 p3_5 p3_6 p3_7 p3_8
    refine hK.out _ _ ?_ (fun hHeld2 => ?_)
    · go_keep
    clear hHeld hK K
    have hHeld := hHeld2
    clear hHeld2
    (try simp only [Act.put, List.setIfInBounds_toArray, List.set_cons_zero, List.set_cons_succ])
    refine takeD (i := 12) (d := 45) (v := ?_) rfl rfl (by kernel_rfl) (by kernel_rfl) (by kernel_rfl) (fun _ _ _ h => h) (Or.inl ⟨by rfl, ?_⟩) (by assumption) ?_
    rotate_left
    · intro w hSw
      (try dsimp only at hSw)
      go_simp
      (try with_reducible rfl)
    (try simp only [Act.put, List.setIfInBounds_toArray, List.set_cons_zero, List.set_cons_succ])
    refine takeD (i := 13) (d := 46) (v := ?_) rfl rfl (by kernel_rfl) (by kernel_rfl) (by kernel_rfl) (fun _ _ _ h => h) (Or.inl ⟨by rfl, ?_⟩) (by assumption) ?_
    rotate_left
    · intro w hSw
      (try dsimp only at hSw)
      go_simp
      (try with_reducible rfl)
    (try simp only [Act.put, List.setIfInBounds_toArray, List.set_cons_zero, List.set_cons_succ])
    refine takeD (i := 14) (d := 47) (v := ?_) rfl rfl (by kernel_rfl) (by kernel_rfl) (by kernel_rfl) (fun _ _ _ h => h) (Or.inl ⟨by rfl, ?_⟩) (by assumption) ?_
    rotate_left
    · intro w hSw
      (try dsimp only at hSw)
      go_simp
      (try with_reducible rfl)
    (try simp only [Act.put, List.setIfInBounds_toArray, List.set_cons_zero, List.set_cons_succ])
    refine takeD (i := 15) (d := 48) (v := ?_) rfl rfl (by kernel_rfl) (by kernel_rfl) (by kernel_rfl) (fun _ _ _ h => h) (Or.inl ⟨by rfl, ?_⟩) (by assumption) ?_
    rotate_left
    · intro w hSw
      (try dsimp only at hSw)
      go_simp
      (try with_reducible rfl)
    (try simp only [Act.put, List.setIfInBounds_toArray, List.set_cons_zero, List.set_cons_succ])
    refine takeD (i := 16) (d := 49) (v := ?_) rfl rfl (by kernel_rfl) (by kernel_rfl) (by kernel_rfl) (fun _ _ _ h => h) (Or.inl ⟨by rfl, ?_⟩) (by assumption) ?_
    rotate_left
    · intro w hSw
      (try dsimp only at hSw)
      go_simp
      (try with_reducible rfl)
    (try simp only [Act.put, List.setIfInBounds_toArray, List.set_cons_zero, List.set_cons_succ])
    refine takeD (i := 17) (d := 50) (v := ?_) rfl rfl (by kernel_rfl) (by kernel_rfl) (by kernel_rfl) (fun _ _ _ h => h) (Or.inl ⟨by rfl, ?_⟩) (by assumption) ?_
    rotate_left
    · intro w hSw
      (try dsimp only at hSw)
      go_simp
      (try with_reducible rfl)
    (try simp only [Act.put, List.setIfInBounds_toArray, List.set_cons_zero, List.set_cons_succ])
    refine takeD (i := 18) (d := 51) (v := ?_) rfl rfl (by kernel_rfl) (by kernel_rfl) (by kernel_rfl) (fun _ _ _ h => h) (Or.inl ⟨by rfl, ?_⟩) (by assumption) ?_
    rotate_left
    · intro w hSw
      (try dsimp only at hSw)
      go_simp
      (try with_reducible rfl)
    (try simp only [Act.put, List.setIfInBounds_toArray, List.set_cons_zero, List.set_cons_succ])
    refine takeD (i := 19) (d := 52) (v := ?_) rfl rfl (by kernel_rfl) (by kernel_rfl) (by kernel_rfl) (fun _ _ _ h => h) (Or.inl ⟨by rfl, ?_⟩) (by assumption) ?_
    rotate_left
    · intro w hSw
      (try dsimp only at hSw)
      go_simp
      (try with_reducible rfl)
    (try simp only [Act.put, List.setIfInBounds_toArray, List.set_cons_zero, List.set_cons_succ])
    refine takeD (i := 20) (d := 53) (v := ?_) rfl rfl (by kernel_rfl) (by kernel_rfl) (by kernel_rfl) (fun _ _ _ h => h) (Or.inl ⟨by rfl, ?_⟩) (by assumption) ?_
    rotate_left
    · intro w hSw
      (try dsimp only at hSw)
      go_simp
      (try with_reducible rfl)
    (try simp only [Act.put, List.setIfInBounds_toArray, List.set_cons_zero, List.set_cons_succ])
    refine takeD (i := 21) (d := 54) (v := ?_) rfl rfl (by kernel_rfl) (by kernel_rfl) (by kernel_rfl) (fun _ _ _ h => h) (Or.inl ⟨by rfl, ?_⟩) (by assumption) ?_
    rotate_left
    · intro w hSw
      (try dsimp only at hSw)
      go_simp
      (try with_reducible rfl)
    (try simp only [Act.put, List.setIfInBounds_toArray, List.set_cons_zero, List.set_cons_succ])
    refine takeD (i := 22) (d := 55) (v := ?_) rfl rfl (by kernel_rfl) (by kernel_rfl) (by kernel_rfl) (fun _ _ _ h => h) (Or.inl ⟨by rfl, ?_⟩) (by assumption) ?_
    rotate_left
    · intro w hSw
      (try dsimp only at hSw)
      go_simp
      (try with_reducible rfl)
    (try simp only [Act.put, List.setIfInBounds_toArray, List.set_cons_zero, List.set_cons_succ])
    refine takeD (i := 23) (d := 56) (v := ?_) rfl rfl (by kernel_rfl) (by kernel_rfl) (by kernel_rfl) (fun _ _ _ h => h) (Or.inl ⟨by rfl, ?_⟩) (by assumption) ?_
    rotate_left
    · intro w hSw
      (try dsimp only at hSw)
      go_simp
      (try with_reducible rfl)
    (try simp only [Act.put, List.setIfInBounds_toArray, List.set_cons_zero, List.set_cons_succ])
    refine takeD (i := 24) (d := 57) (v := ?_) rfl rfl (by kernel_rfl) (by kernel_rfl) (by kernel_rfl) (fun _ _ _ h => h) (Or.inl ⟨by rfl, ?_⟩) (by assumption) ?_
    rotate_left
    · intro w hSw
      (try dsimp only at hSw)
      go_simp
      (try with_reducible rfl)
    (try simp only [Act.put, List.setIfInBounds_toArray, List.set_cons_zero, List.set_cons_succ])
    refine takeD (i := 25) (d := 58) (v := ?_) rfl rfl (by kernel_rfl) (by kernel_rfl) (by kernel_rfl) (fun _ _ _ h => h) (Or.inl ⟨by rfl, ?_⟩) (by assumption) ?_
    rotate_left
    · intro w hSw
      (try dsimp only at hSw)
      go_simp
      (try with_reducible rfl)
    (try simp only [Act.put, List.setIfInBounds_toArray, List.set_cons_zero, List.set_cons_succ])
    refine takeD (i := 26) (d := 59) (v := ?_) rfl rfl (by kernel_rfl) (by kernel_rfl) (by kernel_rfl) (fun _ _ _ h => h) (Or.inl ⟨by rfl, ?_⟩) (by assumption) ?_
    rotate_left
    · intro w hSw
      (try dsimp only at hSw)
      go_simp
      (try with_reducible rfl)
    (try simp only [Act.put, List.setIfInBounds_toArray, List.set_cons_zero, List.set_cons_succ])
    refine takeD (i := 27) (d := 60) (v := ?_) rfl rfl (by kernel_rfl) (by kernel_rfl) (by kernel_rfl) (fun _ _ _ h => h) (Or.inl ⟨by rfl, ?_⟩) (by assumption) ?_
    rotate_left
    · intro w hSw
      (try dsimp only at hSw)
      go_simp
      (try with_reducible rfl)
    (try simp only [Act.put, List.setIfInBounds_toArray, List.set_cons_zero, List.set_cons_succ])
    refine takeD (i := 28) (d := 61) (v := ?_) rfl rfl (by kernel_rfl) (by kernel_rfl) (by kernel_rfl) (fun _ _ _ h => h) (Or.inl ⟨by rfl, ?_⟩) (by assumption) ?_
    rotate_left
    · intro w hSw
      (try dsimp only at hSw)
      go_simp
      (try with_reducible rfl)
    (try simp only [Act.put, List.setIfInBounds_toArray, List.set_cons_zero, List.set_cons_succ])
    refine takeD (i := 29) (d := 62) (v := ?_) rfl rfl (by kernel_rfl) (by kernel_rfl) (by kernel_rfl) (fun _ _ _ h => h) (Or.inl ⟨by rfl, ?_⟩) (by assumption) ?_
    rotate_left
    · intro w hSw
      (try dsimp only at hSw)
      go_simp
      (try with_reducible rfl)
    (try simp only [Act.put, List.setIfInBounds_toArray, List.set_cons_zero, List.set_cons_succ])
    refine takeD (i := 30) (d := 63) (v := ?_) rfl rfl (by kernel_rfl) (by kernel_rfl) (by kernel_rfl) (fun _ _ _ h => h) (Or.inl ⟨by rfl, ?_⟩) (by assumption) ?_
    rotate_left
    · intro w hSw
      (try dsimp only at hSw)
      go_simp
      (try with_reducible rfl)
    (try simp only [Act.put, List.setIfInBounds_toArray, List.set_cons_zero, List.set_cons_succ])
    refine takeD (i := 31) (d := 64) (v := undef) rfl rfl (by kernel_rfl) (by kernel_rfl) (by kernel_rfl) (fun _ _ _ h => h) (Or.inr ⟨by rfl, rfl⟩) (by assumption) ?_
    (try simp only [Act.put, List.setIfInBounds_toArray, List.set_cons_zero, List.set_cons_succ])
    refine takeD (i := 32) (d := 65) (v := undef) rfl rfl (by kernel_rfl) (by kernel_rfl) (by kernel_rfl) (fun _ _ _ h => h) (Or.inr ⟨by rfl, rfl⟩) (by assumption) ?_
    (try simp only [Act.put, List.setIfInBounds_toArray, List.set_cons_zero, List.set_cons_succ])
    refine wpAnyH_ready (rs := [33]) (by kernel_rfl) (by simp) ?_
    refine AllReadyH.cons rfl (fun K hK => ?_) AllReadyH.nil
    go_simp
    refine hK.out _ _ ?_ (fun hHeld2 => ?_)
    · go_keep
    clear hHeld hK K
    have hHeld := hHeld2
    clear hHeld2
    (try simp only [Act.put, List.setIfInBounds_toArray, List.set_cons_zero, List.set_cons_succ])
    refine takeD (i := 34) (d := 67) (v := undef) rfl rfl (by kernel_rfl) (by kernel_rfl) (by kernel_rfl) (fun _ _ _ h => h) (Or.inr ⟨by rfl, rfl⟩) (by assumption) ?_
    (try simp only [Act.put, List.setIfInBounds_toArray, List.set_cons_zero, List.set_cons_succ])
    refine takeD (i := 35) (d := 68) (v := ?_) rfl rfl (by kernel_rfl) (by kernel_rfl) (by kernel_rfl) (fun _ _ _ h => h) (Or.inl ⟨by rfl, ?_⟩) (by assumption) ?_
    rotate_left
    · intro w hSw
      (try dsimp only at hSw)
      go_simp
      (try with_reducible rfl)
    (try simp only [Act.put, List.setIfInBounds_toArray, List.set_cons_zero, List.set_cons_succ])
    refine takeD (i := 36) (d := 69) (v := ?_) rfl rfl (by kernel_rfl) (by kernel_rfl) (by kernel_rfl) (fun _ _ _ h => h) (Or.inl ⟨by rfl, ?_⟩) (by assumption) ?_
    rotate_left
    · intro w hSw
      (try dsimp only at hSw)
      go_simp
      (try with_reducible rfl)
    (try simp only [Act.put, List.setIfInBounds_toArray, List.set_cons_zero, List.set_cons_succ])
    refine takeD (i := 37) (d := 70) (v := ?_) rfl rfl (by kernel_rfl) (by kernel_rfl) (by kernel_rfl) (fun _ _ _ h => h) (Or.inl ⟨by rfl, ?_⟩) (by assumption) ?_
    rotate_left
    · intro w hSw
      (try dsimp only at hSw)
      go_simp
      (try with_reducible rfl)
    (try simp only [Act.put, List.setIfInBounds_toArray, List.set_cons_zero, List.set_cons_succ])
    refine takeD (i := 38) (d := 71) (v := ?_) rfl rfl (by kernel_rfl) (by kernel_rfl) (by kernel_rfl) (fun _ _ _ h => h) (Or.inl ⟨by rfl, ?_⟩) (by assumption) ?_
    rotate_left
    · intro w hSw
      (try dsimp only at hSw)
      go_simp
      (try with_reducible rfl)
    (try simp only [Act.put, List.setIfInBounds_toArray, List.set_cons_zero, List.set_cons_succ])
    refine takeD (i := 39) (d := 72) (v := ?_) rfl rfl (by kernel_rfl) (by kernel_rfl) (by kernel_rfl) (fun _ _ _ h => h) (Or.inl ⟨by rfl, ?_⟩) (by assumption) ?_
    rotate_left
    · intro w hSw
      (try dsimp only at hSw)
      go_simp
      (try with_reducible rfl)
    (try simp only [Act.put, List.setIfInBounds_toArray, List.set_cons_zero, List.set_cons_succ])
    refine takeD (i := 40) (d := 73) (v := ?_) rfl rfl (by kernel_rfl) (by kernel_rfl) (by kernel_rfl) (fun _ _ _ h => h) (Or.inl ⟨by rfl, ?_⟩) (by assumption) ?_
    rotate_left
    · intro w hSw
      (try dsimp only at hSw)
      go_simp
      (try with_reducible rfl)
    (try simp only [Act.put, List.setIfInBounds_toArray, List.set_cons_zero, List.set_cons_succ])
    refine takeD (i := 41) (d := 74) (v := ?_) rfl rfl (by kernel_rfl) (by kernel_rfl) (by kernel_rfl) (fun _ _ _ h => h) (Or.inl ⟨by rfl, ?_⟩) (by assumption) ?_
    rotate_left
    · intro w hSw
      (try dsimp only at hSw)
      go_simp
      (try with_reducible rfl)
    (try simp only [Act.put, List.setIfInBounds_toArray, List.set_cons_zero, List.set_cons_succ])
    refine takeD (i := 42) (d := 75) (v := ?_) rfl rfl (by kernel_rfl) (by kernel_rfl) (by kernel_rfl) (fun _ _ _ h => h) (Or.inl ⟨by rfl, ?_⟩) (by assumption) ?_
    rotate_left
    · intro w hSw
      (try dsimp only at hSw)
      go_simp
      (try with_reducible rfl)
    (try simp only [Act.put, List.setIfInBounds_toArray, List.set_cons_zero, List.set_cons_succ])
    refine takeD (i := 43) (d := 76) (v := ?_) rfl rfl (by kernel_rfl) (by kernel_rfl) (by kernel_rfl) (fun _ _ _ h => h) (Or.inl ⟨by rfl, ?_⟩) (by assumption) ?_
    rotate_left
    · intro w hSw
      (try dsimp only at hSw)
      go_simp
      (try with_reducible rfl)
    (try simp only [Act.put, List.setIfInBounds_toArray, List.set_cons_zero, List.set_cons_succ])
    refine takeD (i := 44) (d := 77) (v := ?_) rfl rfl (by kernel_rfl) (by kernel_rfl) (by kernel_rfl) (fun _ _ _ h => h) (Or.inl ⟨by rfl, ?_⟩) (by assumption) ?_
    rotate_left
    · intro w hSw
      (try dsimp only at hSw)
      go_simp
      (try with_reducible rfl)
    (try simp only [Act.put, List.setIfInBounds_toArray, List.set_cons_zero, List.set_cons_succ])
    refine takeD (i := 45) (d := 78) (v := ?_) rfl rfl (by kernel_rfl) (by kernel_rfl) (by kernel_rfl) (fun _ _ _ h => h) (Or.inl ⟨by rfl, ?_⟩) (by assumption) ?_
    rotate_left
    · intro w hSw
      (try dsimp only at hSw)
      go_simp
      (try with_reducible rfl)
    (try simp only [Act.put, List.setIfInBounds_toArray, List.set_cons_zero, List.set_cons_succ])
    refine takeD (i := 46) (d := 79) (v := ?_) rfl rfl (by kernel_rfl) (by kernel_rfl) (by kernel_rfl) (fun _ _ _ h => h) (Or.inl ⟨by rfl, ?_⟩) (by assumption) ?_
    rotate_left
    · intro w hSw
      (try dsimp only at hSw)
      go_simp
      (try with_reducible rfl)
    (try simp only [Act.put, List.setIfInBounds_toArray, List.set_cons_zero, List.set_cons_succ])
    refine wpAnyH_done (by kernel_rfl) ?_ _
    clear hHeld
    have HBU := Lib.hid (HBV4.out.trans (HC4.out.mono HBV4.out.size))
    have HLU : Hid (w2.heap.size < u_4.heap.size) := Lib.hid (by have := HC4.out.size; have := LX.out; omega)
    have HKU : Hid (I9 u_4 w2.heap.size 1 s c) := Lib.hid (HKx_V4.out.below HC4.out LX.out)
    clear y4_0 y4_1 y4_2 y4_3 y4_4 y4_5 y4_6 y4_7 y4_8 z4_0 z4_1 z4_2 z4_3 z4_4 z4_5 z4_6 z4_7 z4_8 p4_0 p4_1 p4_2 p4_3 p4_4 p4_5 p4_6 p4_7 p4_8
    go_wp2_with fail
    (with_reducible refine (HQ.out _).mono ?_)
    rintro e w6 ⟨g, rfl, hg, hgi, hb6⟩
    have HB6 := Lib.hid (HBU.out.trans (hb6.mono HBU.out.size))
    have HK6 : Hid (I9 w6 w2.heap.size 1 s c) := Lib.hid (HKU.out.below hb6 HLU.out)
    have HL6 : Hid (w2.heap.size < w6.heap.size) := Lib.hid (by have := hb6.size; have := HLU.out; omega)
    have HG6 := Lib.hid hg
    have HI6 := Lib.hid hgi
    clear hb6 hg hgi x4_0 x4_1 x4_2 x4_3 x4_4 x4_5 x4_6 x4_7 x4_8
    go_wp2_with fail
    generalize hW : w6.alloc _ = V5
    have HKq : Hid (Q9 V5 w6.heap.size g) := Lib.hid (by rw [← hW]; exact q9_alloc w6 g _)
    have HBV5 : Hid (Below w.heap.size w V5) := Lib.hid (by rw [← hW]; exact HB6.out.alloc HB6.out.size _)
    have HSV5 : Hid (V5.heap.size = w6.heap.size + 1) := Lib.hid (by rw [← hW]; simp)
    have HKx5v : Hid (I9 V5 w2.heap.size 1 s c) := Lib.hid (HK6.out.below (lim := w6.heap.size) (by rw [← hW]; exact (Below.refl _ _).alloc (Nat.le_refl _) _) HL6.out)
    have HIg : Hid (I9 V5 g 1 s c) := Lib.hid (HI6.out.below (lim := w6.heap.size) (by rw [← hW]; exact (Below.refl _ _).alloc (Nat.le_refl _) _) HG6.out)
    clear hW
    have GX : Hid (w2.heap.size < V5.heap.size) := Lib.hid (by have := HL6.out; have := HSV5.out; omega)
    have GQ : Hid (w6.heap.size < V5.heap.size) := Lib.hid (by have := HSV5.out; omega)
    have GG : Hid (g < V5.heap.size) := Lib.hid (by have := HG6.out; have := HSV5.out; omega)
    obtain ⟨x20_0, x20_1, x20_2, x20_3, x20_4, x20_5, x20_6, x20_7, x20_8⟩ := HKx5v.out
    obtain ⟨q20_0, q20_1, q20_2, q20_3, q20_4, q20_5, q20_6, q20_7, q20_8⟩ := HKq.out
    refine wp_region_held_drew (S := (fun w' => w'.cell? ⟨w2.heap.size, 0, none⟩ = some (.int .i64 1) ∧ w'.cell? ⟨w2.heap.size, 1, none⟩ = some (.int .i64 1) ∧ w'.cell? ⟨w2.heap.size, 2, none⟩ = some (.bool s) ∧ w'.cell? ⟨w2.heap.size, 3, none⟩ = some (.bool c) ∧ w'.cell? ⟨w2.heap.size, 4, none⟩ = some (.pointer none) ∧ w'.cell? ⟨w2.heap.size, 5, none⟩ = some (.int .i64 0) ∧ w'.cell? ⟨w2.heap.size, 6, none⟩ = some (.int .i64 0) ∧ w'.cell? ⟨w2.heap.size, 7, none⟩ = some (.slice none 0 0) ∧ w'.cell? ⟨w2.heap.size, 8, none⟩ = some (.pointer none) ∧ w'.cell? ⟨w6.heap.size, 0, none⟩ = some (.int .i64 2) ∧ w'.cell? ⟨w6.heap.size, 1, none⟩ = some (.int .i64 8) ∧ w'.cell? ⟨w6.heap.size, 2, none⟩ = some (.bool false) ∧ w'.cell? ⟨w6.heap.size, 3, none⟩ = some (.bool false) ∧ w'.cell? ⟨w6.heap.size, 4, none⟩ = some (.pointer (some ⟨g, 0, none⟩)) ∧ w'.cell? ⟨w6.heap.size, 5, none⟩ = some (.int .i64 0) ∧ w'.cell? ⟨w6.heap.size, 6, none⟩ = some (.int .i64 0) ∧ w'.cell? ⟨w6.heap.size, 7, none⟩ = some (.slice none 0 0) ∧ w'.cell? ⟨w6.heap.size, 8, none⟩ = some (.pointer none))) (by kernel_rfl) (by go_keep) (fun hHeld => ?_)
    refine takeD (i := 0) (d := 82) (v := ?_) rfl rfl (by kernel_rfl) (by kernel_rfl) (by kernel_rfl) (fun _ _ _ h => h) (Or.inl ⟨by rfl, ?_⟩) (by assumption) ?_
    rotate_left
    · intro w hSw
      (try dsimp only at hSw)
      go_simp
      (try with_reducible rfl)
    (try simp only [Act.put, List.setIfInBounds_toArray, List.set_cons_zero, List.set_cons_succ])
    refine takeD (i := 2) (d := 84) (v := ?_) rfl rfl (by kernel_rfl) (by kernel_rfl) (by kernel_rfl) (fun _ _ _ h => h) (Or.inl ⟨by rfl, ?_⟩) (by assumption) ?_
    rotate_left
    · intro w hSw
      (try dsimp only at hSw)
      go_simp
      (try with_reducible rfl)
    (try simp only [Act.put, List.setIfInBounds_toArray, List.set_cons_zero, List.set_cons_succ])
    refine wpAnyH_ready (rs := [1]) (by kernel_rfl) (by simp) ?_
    refine AllReadyH.cons rfl (fun K hK => ?_) AllReadyH.nil
    go_simp
    (go_at_call 15)
    refine (HPQ.out g _ (by exact GG.out) (HIg.out.below (lim := V5.heap.size) ((Below.refl _ _).drew) GG.out)).mono ?_
    rintro e r_21 ⟨f, rfl, hf, hfi, hb21⟩
    have HD21 : Hid (Below V5.heap.size V5 r_21) := Lib.hid ((Below.refl V5.heap.size V5).drew.trans hb21)
    have HF := Lib.hid hf
    have HFI := Lib.hid hfi
    clear hf hfi
    obtain ⟨x21_0, x21_1, x21_2, x21_3, x21_4, x21_5, x21_6, x21_7, x21_8⟩ := HKx5v.out.below HD21.out GX.out
    obtain ⟨q21_0, q21_1, q21_2, q21_3, q21_4, q21_5, q21_6, q21_7, q21_8⟩ := HKq.out.below HD21.out GQ.out
    clear hb21 x20_0 x20_1 x20_2 x20_3 x20_4 x20_5 x20_6 x20_7 x20_8 q20_0 q20_1 q20_2 q20_3 q20_4 q20_5 q20_6 q20_7 q20_8
    refine hK.out _ _ ?_ (fun hHeld2 => ?_)
    · go_keep
    clear hHeld hK K
    have hHeld := hHeld2
    clear hHeld2
    (try simp only [Act.put, List.setIfInBounds_toArray, List.set_cons_zero, List.set_cons_succ])
    refine wpAnyH_ready (rs := [3]) (by kernel_rfl) (by simp) ?_
    refine AllReadyH.cons rfl (fun K hK => ?_) AllReadyH.nil
    go_simp
    (go_at_call 12)
    refine (HSQ.out f g _ HF.out (Nat.lt_of_lt_of_le GG.out HD21.out.size) HFI.out (HIg.out.below HD21.out GG.out)).mono ?_
    rintro e r_22 ⟨rfl, hb22⟩
    have HD22 : Hid (Below V5.heap.size V5 r_22) := Lib.hid (HD21.out.trans (hb22.mono HD21.out.size))
    obtain ⟨x22_0, x22_1, x22_2, x22_3, x22_4, x22_5, x22_6, x22_7, x22_8⟩ := HKx5v.out.below HD22.out GX.out
    obtain ⟨q22_0, q22_1, q22_2, q22_3, q22_4, q22_5, q22_6, q22_7, q22_8⟩ := HKq.out.below HD22.out GQ.out
    clear hb22 x21_0 x21_1 x21_2 x21_3 x21_4 x21_5 x21_6 x21_7 x21_8 q21_0 q21_1 q21_2 q21_3 q21_4 q21_5 q21_6 q21_7 q21_8
    refine hK.out _ _ ?_ (fun hHeld2 => ?_)
    · go_keep
    clear hHeld hK K
    have hHeld := hHeld2
    clear hHeld2
    (try simp only [Act.put, List.setIfInBounds_toArray, List.set_cons_zero, List.set_cons_succ])
    refine takeD (i := 4) (d := 86) (v := ?_) rfl rfl (by kernel_rfl) (by kernel_rfl) (by kernel_rfl) (fun _ _ _ h => h) (Or.inl ⟨by rfl, ?_⟩) (by assumption) ?_
    rotate_left
    · intro w hSw
      (try dsimp only at hSw)
      go_simp
      (try with_reducible rfl)
    (try simp only [Act.put, List.setIfInBounds_toArray, List.set_cons_zero, List.set_cons_succ])
    refine takeD (i := 5) (d := 87) (v := ?_) rfl rfl (by kernel_rfl) (by kernel_rfl) (by kernel_rfl) (fun _ _ _ h => h) (Or.inl ⟨by rfl, ?_⟩) (by assumption) ?_
    rotate_left
    · intro w hSw
      (try dsimp only at hSw)
      go_simp
      (try with_reducible rfl)
    (try simp only [Act.put, List.setIfInBounds_toArray, List.set_cons_zero, List.set_cons_succ])
    refine wpAnyH_ready (rs := [6]) (by kernel_rfl) (by simp) ?_
    refine AllReadyH.cons rfl (fun K hK => ?_) AllReadyH.nil
    go_simp
    (go_at_call 18)
    refine (HO.out _).mono ?_
    rintro e r_23 ⟨rfl, hb23⟩
    have HD23 : Hid (Below V5.heap.size V5 r_23) := Lib.hid (HD22.out.trans (hb23.mono HD22.out.size))
    obtain ⟨x23_0, x23_1, x23_2, x23_3, x23_4, x23_5, x23_6, x23_7, x23_8⟩ := HKx5v.out.below HD23.out GX.out
    obtain ⟨q23_0, q23_1, q23_2, q23_3, q23_4, q23_5, q23_6, q23_7, q23_8⟩ := HKq.out.below HD23.out GQ.out
    clear hb23 x22_0 x22_1 x22_2 x22_3 x22_4 x22_5 x22_6 x22_7 x22_8 q22_0 q22_1 q22_2 q22_3 q22_4 q22_5 q22_6 q22_7 q22_8
    refine hK.out _ _ ?_ (fun hHeld2 => ?_)
    · go_keep
    clear hHeld hK K
    have hHeld := hHeld2
    clear hHeld2
    (try simp only [Act.put, List.setIfInBounds_toArray, List.set_cons_zero, List.set_cons_succ])
    refine wpAnyH_ready (rs := [7]) (by kernel_rfl) (by simp) ?_
    refine AllReadyH.cons rfl (fun K hK => ?_) AllReadyH.nil
    go_simp
    (try go_wp2_with fail)
    refine hK.out _ _ ?_ (fun hHeld2 => ?_)
    · go_keep
    clear hHeld hK K
    have hHeld := hHeld2
    clear hHeld2
    (try simp only [Act.put, List.setIfInBounds_toArray, List.set_cons_zero, List.set_cons_succ])
    refine takeD (i := 8) (d := 90) (v := ?_) rfl rfl (by kernel_rfl) (by kernel_rfl) (by kernel_rfl) (fun _ _ _ h => h) (Or.inl ⟨by rfl, ?_⟩) (by assumption) ?_
    rotate_left
    · intro w hSw
      (try dsimp only at hSw)
      go_simp
      (try with_reducible rfl)
    (try simp only [Act.put, List.setIfInBounds_toArray, List.set_cons_zero, List.set_cons_succ])
    refine takeD (i := 9) (d := 91) (v := ?_) rfl rfl (by kernel_rfl) (by kernel_rfl) (by kernel_rfl) (fun _ _ _ h => h) (Or.inl ⟨by rfl, ?_⟩) (by assumption) ?_
    rotate_left
    · intro w hSw
      (try dsimp only at hSw)
      go_simp
      (try with_reducible rfl)
    (try simp only [Act.put, List.setIfInBounds_toArray, List.set_cons_zero, List.set_cons_succ])
    refine takeD (i := 10) (d := 92) (v := ?_) rfl rfl (by kernel_rfl) (by kernel_rfl) (by kernel_rfl) (fun _ _ _ h => h) (Or.inl ⟨by rfl, ?_⟩) (by assumption) ?_
    rotate_left
    · intro w hSw
      (try dsimp only at hSw)
      go_simp
      (try with_reducible rfl)
    (try simp only [Act.put, List.setIfInBounds_toArray, List.set_cons_zero, List.set_cons_succ])
    refine takeD (i := 11) (d := 93) (v := ?_) rfl rfl (by kernel_rfl) (by kernel_rfl) (by kernel_rfl) (fun _ _ _ h => h) (Or.inl ⟨by rfl, ?_⟩) (by assumption) ?_
    rotate_left
    · intro w hSw
      (try dsimp only at hSw)
      go_simp
      (try with_reducible rfl)
    (try simp only [Act.put, List.setIfInBounds_toArray, List.set_cons_zero, List.set_cons_succ])
    refine wpAnyH_ready (rs := [12]) (by kernel_rfl) (by simp) ?_
    refine AllReadyH.cons rfl (fun K hK => ?_) AllReadyH.nil
    go_simp
    (go_at_call 19)
    refine (HE.out _).mono ?_
    rintro e r_24 ⟨rfl, hb24⟩
    have HD24 : Hid (Below V5.heap.size V5 r_24) := Lib.hid (HD23.out.trans (hb24.mono HD23.out.size))
    obtain ⟨x24_0, x24_1, x24_2, x24_3, x24_4, x24_5, x24_6, x24_7, x24_8⟩ := HKx5v.out.below HD24.out GX.out
    obtain ⟨q24_0, q24_1, q24_2, q24_3, q24_4, q24_5, q24_6, q24_7, q24_8⟩ := HKq.out.below HD24.out GQ.out
    clear hb24 x23_0 x23_1 x23_2 x23_3 x23_4 x23_5 x23_6 x23_7 x23_8 q23_0 q23_1 q23_2 q23_3 q23_4 q23_5 q23_6 q23_7 q23_8
    refine hK.out _ _ ?_ (fun hHeld2 => ?_)
    · go_keep
    clear hHeld hK K
    have hHeld := hHeld2
    clear hHeld2
    (try simp only [Act.put, List.setIfInBounds_toArray, List.set_cons_zero, List.set_cons_succ])
    refine wpAnyH_ready (rs := [13]) (by kernel_rfl) (by simp) ?_
    refine AllReadyH.cons rfl (fun K hK => ?_) AllReadyH.nil
    go_simp
    (try go_wp2_with fail)
    refine hK.out _ _ ?_ (fun hHeld2 => ?_)
    · go_keep
    clear hHeld hK K
    have hHeld := hHeld2
    clear hHeld2
    (try simp only [Act.put, List.setIfInBounds_toArray, List.set_cons_zero, List.set_cons_succ])
    refine takeD (i := 14) (d := 96) (v := ?_) rfl rfl (by kernel_rfl) (by kernel_rfl) (by kernel_rfl) (fun _ _ _ h => h) (Or.inl ⟨by rfl, ?_⟩) (by assumption) ?_
    rotate_left
    · intro w hSw
      (try dsimp only at hSw)
      go_simp
      (try with_reducible rfl)
    (try simp only [Act.put, List.setIfInBounds_toArray, List.set_cons_zero, List.set_cons_succ])
    refine takeD (i := 15) (d := 97) (v := ?_) rfl rfl (by kernel_rfl) (by kernel_rfl) (by kernel_rfl) (fun _ _ _ h => h) (Or.inl ⟨by rfl, ?_⟩) (by assumption) ?_
    rotate_left
    · intro w hSw
      (try dsimp only at hSw)
      go_simp
      (try with_reducible rfl)
    (try simp only [Act.put, List.setIfInBounds_toArray, List.set_cons_zero, List.set_cons_succ])
    refine takeD (i := 16) (d := 98) (v := ?_) rfl rfl (by kernel_rfl) (by kernel_rfl) (by kernel_rfl) (fun _ _ _ h => h) (Or.inl ⟨by rfl, ?_⟩) (by assumption) ?_
    rotate_left
    · intro w hSw
      (try dsimp only at hSw)
      go_simp
      (try with_reducible rfl)
    (try simp only [Act.put, List.setIfInBounds_toArray, List.set_cons_zero, List.set_cons_succ])
    refine takeD (i := 22) (d := 104) (v := ?_) rfl rfl (by kernel_rfl) (by kernel_rfl) (by kernel_rfl) (fun _ _ _ h => h) (Or.inl ⟨by rfl, ?_⟩) (by assumption) ?_
    rotate_left
    · intro w hSw
      (try dsimp only at hSw)
      go_simp
      (try with_reducible rfl)
    (try simp only [Act.put, List.setIfInBounds_toArray, List.set_cons_zero, List.set_cons_succ])
    refine takeD (i := 23) (d := 105) (v := ?_) rfl rfl (by kernel_rfl) (by kernel_rfl) (by kernel_rfl) (fun _ _ _ h => h) (Or.inl ⟨by rfl, ?_⟩) (by assumption) ?_
    rotate_left
    · intro w hSw
      (try dsimp only at hSw)
      go_simp
      (try with_reducible rfl)
    (try simp only [Act.put, List.setIfInBounds_toArray, List.set_cons_zero, List.set_cons_succ])
    refine wpAnyH_ready (rs := [17]) (by kernel_rfl) (by simp) ?_
    refine AllReadyH.cons rfl (fun K hK => ?_) AllReadyH.nil
    go_simp
    (go_at_call 19)
    refine (HEQ.out g _ (Nat.lt_of_lt_of_le GG.out HD24.out.size) (HIg.out.below HD24.out GG.out)).mono ?_
    rintro e r_25 ⟨k2, rfl, hf2, hfi2, hb25⟩
    have HD25 : Hid (Below V5.heap.size V5 r_25) := Lib.hid (HD24.out.trans (hb25.mono HD24.out.size))
    obtain ⟨kk0, kk1, kk2, kk3, kk4, kk5, kk6, kk7, kk8⟩ := hfi2
    obtain ⟨x25_0, x25_1, x25_2, x25_3, x25_4, x25_5, x25_6, x25_7, x25_8⟩ := HKx5v.out.below HD25.out GX.out
    obtain ⟨q25_0, q25_1, q25_2, q25_3, q25_4, q25_5, q25_6, q25_7, q25_8⟩ := HKq.out.below HD25.out GQ.out
    clear hb25 x24_0 x24_1 x24_2 x24_3 x24_4 x24_5 x24_6 x24_7 x24_8 q24_0 q24_1 q24_2 q24_3 q24_4 q24_5 q24_6 q24_7 q24_8
    refine hK.out _ _ ?_ (fun hHeld2 => ?_)
    · go_keep
    clear hHeld hK K
    have hHeld := hHeld2
    clear hHeld2
    (try simp only [Act.put, List.setIfInBounds_toArray, List.set_cons_zero, List.set_cons_succ])
    refine wpAnyH_ready (rs := [18]) (by kernel_rfl) (by simp) ?_
    refine AllReadyH.cons rfl (fun K hK => ?_) AllReadyH.nil
    go_simp
    (try go_wp2_with fail)
    refine hK.out _ _ ?_ (fun hHeld2 => ?_)
    · go_keep
    clear hHeld hK K
    have hHeld := hHeld2
    clear hHeld2
    (try simp only [Act.put, List.setIfInBounds_toArray, List.set_cons_zero, List.set_cons_succ])
    refine takeD (i := 19) (d := 101) (v := ?_) rfl rfl (by kernel_rfl) (by kernel_rfl) (by kernel_rfl) (fun _ _ _ h => h) (Or.inl ⟨by rfl, ?_⟩) (by assumption) ?_
    rotate_left
    · intro w hSw
      (try dsimp only at hSw)
      go_simp
      (try with_reducible rfl)
    (try simp only [Act.put, List.setIfInBounds_toArray, List.set_cons_zero, List.set_cons_succ])
    refine takeD (i := 20) (d := 102) (v := ?_) rfl rfl (by kernel_rfl) (by kernel_rfl) (by kernel_rfl) (fun _ _ _ h => h) (Or.inl ⟨by rfl, ?_⟩) (by assumption) ?_
    rotate_left
    · intro w hSw
      (try dsimp only at hSw)
      go_simp
      (try with_reducible rfl)
    (try simp only [Act.put, List.setIfInBounds_toArray, List.set_cons_zero, List.set_cons_succ])
    refine wpAnyH_ready (rs := [21]) (by kernel_rfl) (by simp) ?_
    refine AllReadyH.cons rfl (fun K hK => ?_) AllReadyH.nil
    go_simp
    (try go_wp2_with fail)
    refine hK.out _ _ ?_ (fun hHeld2 => ?_)
    · go_keep
    clear hHeld hK K
    have hHeld := hHeld2
    clear hHeld2
    (try simp only [Act.put, List.setIfInBounds_toArray, List.set_cons_zero, List.set_cons_succ])
    refine takeD (i := 24) (d := 106) (v := ?_) rfl rfl (by kernel_rfl) (by kernel_rfl) (by kernel_rfl) (fun _ _ _ h => h) (Or.inl ⟨by rfl, ?_⟩) (by assumption) ?_
    rotate_left
    · intro w hSw
      (try dsimp only at hSw)
      go_simp
      (try with_reducible rfl)
    (try simp only [Act.put, List.setIfInBounds_toArray, List.set_cons_zero, List.set_cons_succ])
    refine takeD (i := 25) (d := 107) (v := ?_) rfl rfl (by kernel_rfl) (by kernel_rfl) (by kernel_rfl) (fun _ _ _ h => h) (Or.inl ⟨by rfl, ?_⟩) (by assumption) ?_
    rotate_left
    · intro w hSw
      (try dsimp only at hSw)
      go_simp
      (try with_reducible rfl)
    (try simp only [Act.put, List.setIfInBounds_toArray, List.set_cons_zero, List.set_cons_succ])
    refine takeD (i := 26) (d := 4) (v := ?_) rfl rfl (by kernel_rfl) (by kernel_rfl) (by kernel_rfl) (fun _ _ _ h => h) (Or.inl ⟨by rfl, ?_⟩) (by assumption) ?_
    rotate_left
    · intro w hSw
      (try dsimp only at hSw)
      go_simp
      (try with_reducible rfl)
    (try simp only [Act.put, List.setIfInBounds_toArray, List.set_cons_zero, List.set_cons_succ])
    refine wpAnyH_done (by kernel_rfl) ?_ _
    clear hHeld
    go_wp2_with fail
    go_ret
    exact ⟨rfl, HBV5.out.trans (HD25.out.mono HBV5.out.size)⟩

  · have H1 := Lib.hid (show ∀ w, Calls Try.prog 14 #[.agg #[.int .i64 1, .int .i64 2, .bool s, .bool c, .pointer none, .int .i64 0, .int .i64 0, .slice none 0 0, .pointer none], .agg #[.int .i64 1, .int .i64 m, .bool t, .bool d, .pointer none, .int .i64 0, .int .i64 0, .slice none 0 0, .pointer none]] w (AggIs k u v w) from C1)
    have H2 := Lib.hid (show ∀ w, Calls Try.prog 16 #[.agg #[.int .i64 1, .int .i64 2, .bool s, .bool c, .pointer none, .int .i64 0, .int .i64 0, .slice none 0 0, .pointer none], .agg #[.int .i64 1, .int .i64 m, .bool t, .bool d, .pointer none, .int .i64 0, .int .i64 0, .slice none 0 0, .pointer none]] w (AggIs k u v w) from C2)
    have H3 := Lib.hid (show ∀ w, Calls Try.prog 14 #[.agg #[.int .i64 1, .int .i64 m, .bool t, .bool d, .pointer none, .int .i64 0, .int .i64 0, .slice none 0 0, .pointer none], .agg #[.int .i64 1, .int .i64 2, .bool s, .bool c, .pointer none, .int .i64 0, .int .i64 0, .slice none 0 0, .pointer none]] w (AggIs k u v w) from C3)
    have HP := Lib.hid (show ∀ w, Calls Try.prog 15 #[.agg #[.int .i64 1, .int .i64 2, .bool s, .bool c, .pointer none, .int .i64 0, .int .i64 0, .slice none 0 0, .pointer none]] w (AggIs 4 true c w) from promote_int 2 s c)
    have HS := Lib.hid (show ∀ w, Calls Try.prog 12 #[.agg #[.int .i64 1, .int .i64 k, .bool u, .bool v, .pointer none, .int .i64 0, .int .i64 0, .slice none 0 0, .pointer none], .agg #[.int .i64 1, .int .i64 k, .bool u, .bool v, .pointer none, .int .i64 0, .int .i64 0, .slice none 0 0, .pointer none]] w (BoolIs true w) from same_true k u v)
    have HSX := Lib.hid (show ∀ w, Calls Try.prog 12 #[.agg #[.int .i64 1, .int .i64 2, .bool s, .bool c, .pointer none, .int .i64 0, .int .i64 0, .slice none 0 0, .pointer none], .agg #[.int .i64 1, .int .i64 2, .bool s, .bool c, .pointer none, .int .i64 0, .int .i64 0, .slice none 0 0, .pointer none]] w (BoolIs true w) from same_true 2 s c)
    have HQ := Lib.hid (show ∀ w, Calls Try.prog 17 #[.agg #[.int .i64 1, .int .i64 2, .bool s, .bool c, .pointer none, .int .i64 0, .int .i64 0, .slice none 0 0, .pointer none]] w (QIs 2 s c w) from ptr_is 2 s c)
    have HPQ := Lib.hid (show ∀ g w, g < w.heap.size → I9 w g 2 s c → Calls Try.prog 15 #[.agg #[.int .i64 2, .int .i64 8, .bool false, .bool false, .pointer (some ⟨g, 0, none⟩), .int .i64 0, .int .i64 0, .slice none 0 0, .pointer none]] w (QIs 2 s c w) from prq_is 2 s c)
    have HSQ := Lib.hid (show ∀ g h w, g < w.heap.size → h < w.heap.size → I9 w g 2 s c → I9 w h 2 s c → Calls Try.prog 12 #[.agg #[.int .i64 2, .int .i64 8, .bool false, .bool false, .pointer (some ⟨g, 0, none⟩), .int .i64 0, .int .i64 0, .slice none 0 0, .pointer none], .agg #[.int .i64 2, .int .i64 8, .bool false, .bool false, .pointer (some ⟨h, 0, none⟩), .int .i64 0, .int .i64 0, .slice none 0 0, .pointer none]] w (BoolIs true w) from sameq_is 2 s c)
    have HO := Lib.hid (show ∀ w, Calls Try.prog 18 #[.agg #[.int .i64 1, .int .i64 2, .bool s, .bool c, .pointer none, .int .i64 0, .int .i64 0, .slice none 0 0, .pointer none]] w (AggIs 2 s false w) from open_int 2 s c)
    have HE := Lib.hid (show ∀ w, Calls Try.prog 19 #[.agg #[.int .i64 1, .int .i64 2, .bool s, .bool c, .pointer none, .int .i64 0, .int .i64 0, .slice none 0 0, .pointer none]] w (AggIs 2 s true w) from secret_int 2 s c)
    have HEQ := Lib.hid (show ∀ g w, g < w.heap.size → I9 w g 2 s c → Calls Try.prog 19 #[.agg #[.int .i64 2, .int .i64 8, .bool false, .bool false, .pointer (some ⟨g, 0, none⟩), .int .i64 0, .int .i64 0, .slice none 0 0, .pointer none]] w (QIs 2 s c w) from seq_is 2 s c)
    clear C1 C2 C3
    have LX2 : Hid (w2.heap.size < V2.heap.size) := Lib.hid (by have := HZx3.out; have := HSV2.out; omega)
    have LY2 : Hid (w3.heap.size < V2.heap.size) := Lib.hid (by have := HSV2.out; omega)
    clear hx3 x2_0 x2_1 x2_2 x2_3 x2_4 x2_5 x2_6 x2_7 x2_8
    (with_reducible refine (H1.out _).mono ?_)
    rintro e w4 ⟨rfl, hb4⟩
    have HB4 := Lib.hid (HBV2.out.trans (hb4.mono HBV2.out.size))
    have HKx4 : Hid (I9 w4 w2.heap.size 2 s c) := Lib.hid (HKx_V2.out.below hb4 LX2.out)
    have HKy4 : Hid (I9 w4 w3.heap.size m t d) := Lib.hid (HKy.out.below hb4 LY2.out)
    have LX4 : Hid (w2.heap.size < w4.heap.size) := Lib.hid (by have := hb4.size; have := LX2.out; omega)
    have LY4 : Hid (w3.heap.size < w4.heap.size) := Lib.hid (by have := hb4.size; have := LY2.out; omega)
    clear hb4
    obtain ⟨x3_0, x3_1, x3_2, x3_3, x3_4, x3_5, x3_6, x3_7, x3_8⟩ := HKx4.out
    have hx4 : w2.heap.size < w4.heap.size := LX4.out
    go_wp2_with fail
    generalize hW : w4.alloc _ = V3
    have HKz : Hid (I9 V3 w4.heap.size k u v) := Lib.hid (by rw [← hW]; exact i9_alloc w4 k u v _)
    have HBV3 : Hid (Below w.heap.size w V3) := Lib.hid (by rw [← hW]; exact HB4.out.alloc HB4.out.size _)
    have HSV3 : Hid (V3.heap.size = w4.heap.size + 1) := Lib.hid (by rw [← hW]; simp)
    have HKx_V3 : Hid (I9 V3 w2.heap.size 2 s c) := Lib.hid (HKx4.out.below (lim := w4.heap.size) (by rw [← hW]; exact (Below.refl _ _).alloc (Nat.le_refl _) _) (LX4.out))
    have HKy_V3 : Hid (I9 V3 w3.heap.size m t d) := Lib.hid (HKy4.out.below (lim := w4.heap.size) (by rw [← hW]; exact (Below.refl _ _).alloc (Nat.le_refl _) _) (LY4.out))
    clear hW
    have LX3 : Hid (w2.heap.size < V3.heap.size) := Lib.hid (by have := LX4.out; have := HSV3.out; omega)
    have LY3 : Hid (w3.heap.size < V3.heap.size) := Lib.hid (by have := LY4.out; have := HSV3.out; omega)
    have LZ3 : Hid (w4.heap.size < V3.heap.size) := Lib.hid (by have := HSV3.out; omega)
    clear hx4 x3_0 x3_1 x3_2 x3_3 x3_4 x3_5 x3_6 x3_7 x3_8
    (with_reducible refine (HP.out _).mono ?_)
    rintro e w5 ⟨rfl, hb5⟩
    have HB5 := Lib.hid (HBV3.out.trans (hb5.mono HBV3.out.size))
    have HKx5 : Hid (I9 w5 w2.heap.size 2 s c) := Lib.hid (HKx_V3.out.below hb5 LX3.out)
    have HKy5 : Hid (I9 w5 w3.heap.size m t d) := Lib.hid (HKy_V3.out.below hb5 LY3.out)
    have HKz5 : Hid (I9 w5 w4.heap.size k u v) := Lib.hid (HKz.out.below hb5 LZ3.out)
    have LX5 : Hid (w2.heap.size < w5.heap.size) := Lib.hid (by have := hb5.size; have := LX3.out; omega)
    have LY5 : Hid (w3.heap.size < w5.heap.size) := Lib.hid (by have := hb5.size; have := LY3.out; omega)
    have LZ5 : Hid (w4.heap.size < w5.heap.size) := Lib.hid (by have := hb5.size; have := LZ3.out; omega)
    clear hb5
    go_wp2_with fail
    generalize hW : w5.alloc _ = V4
    have HKp : Hid (I9 V4 w5.heap.size 4 true c) := Lib.hid (by rw [← hW]; exact i9_alloc w5 4 true c _)
    have HBV4 : Hid (Below w.heap.size w V4) := Lib.hid (by rw [← hW]; exact HB5.out.alloc HB5.out.size _)
    have HSV4 : Hid (V4.heap.size = w5.heap.size + 1) := Lib.hid (by rw [← hW]; simp)
    have HKx_V4 : Hid (I9 V4 w2.heap.size 2 s c) := Lib.hid (HKx5.out.below (lim := w5.heap.size) (by rw [← hW]; exact (Below.refl _ _).alloc (Nat.le_refl _) _) (LX5.out))
    have HKy_V4 : Hid (I9 V4 w3.heap.size m t d) := Lib.hid (HKy5.out.below (lim := w5.heap.size) (by rw [← hW]; exact (Below.refl _ _).alloc (Nat.le_refl _) _) (LY5.out))
    have HKz_V4 : Hid (I9 V4 w4.heap.size k u v) := Lib.hid (HKz5.out.below (lim := w5.heap.size) (by rw [← hW]; exact (Below.refl _ _).alloc (Nat.le_refl _) _) (LZ5.out))
    clear hW
    have LX : Hid (w2.heap.size < V4.heap.size) := Lib.hid (by have := LX5.out; have := HSV4.out; omega)
    have LY : Hid (w3.heap.size < V4.heap.size) := Lib.hid (by have := LY5.out; have := HSV4.out; omega)
    have LZ : Hid (w4.heap.size < V4.heap.size) := Lib.hid (by have := LZ5.out; have := HSV4.out; omega)
    have LP : Hid (w5.heap.size < V4.heap.size) := Lib.hid (by have := HSV4.out; omega)
    obtain ⟨x0_0, x0_1, x0_2, x0_3, x0_4, x0_5, x0_6, x0_7, x0_8⟩ := HKx_V4.out
    obtain ⟨y0_0, y0_1, y0_2, y0_3, y0_4, y0_5, y0_6, y0_7, y0_8⟩ := HKy_V4.out
    obtain ⟨z0_0, z0_1, z0_2, z0_3, z0_4, z0_5, z0_6, z0_7, z0_8⟩ := HKz_V4.out
    obtain ⟨p0_0, p0_1, p0_2, p0_3, p0_4, p0_5, p0_6, p0_7, p0_8⟩ := HKp.out
    refine wp_region_held_drew (S := (fun w' => w'.cell? ⟨w2.heap.size, 0, none⟩ = some (.int .i64 1) ∧ w'.cell? ⟨w2.heap.size, 1, none⟩ = some (.int .i64 2) ∧ w'.cell? ⟨w2.heap.size, 2, none⟩ = some (.bool s) ∧ w'.cell? ⟨w2.heap.size, 3, none⟩ = some (.bool c) ∧ w'.cell? ⟨w2.heap.size, 4, none⟩ = some (.pointer none) ∧ w'.cell? ⟨w2.heap.size, 5, none⟩ = some (.int .i64 0) ∧ w'.cell? ⟨w2.heap.size, 6, none⟩ = some (.int .i64 0) ∧ w'.cell? ⟨w2.heap.size, 7, none⟩ = some (.slice none 0 0) ∧ w'.cell? ⟨w2.heap.size, 8, none⟩ = some (.pointer none) ∧ w'.cell? ⟨w3.heap.size, 0, none⟩ = some (.int .i64 1) ∧ w'.cell? ⟨w3.heap.size, 1, none⟩ = some (.int .i64 m) ∧ w'.cell? ⟨w3.heap.size, 2, none⟩ = some (.bool t) ∧ w'.cell? ⟨w3.heap.size, 3, none⟩ = some (.bool d) ∧ w'.cell? ⟨w3.heap.size, 4, none⟩ = some (.pointer none) ∧ w'.cell? ⟨w3.heap.size, 5, none⟩ = some (.int .i64 0) ∧ w'.cell? ⟨w3.heap.size, 6, none⟩ = some (.int .i64 0) ∧ w'.cell? ⟨w3.heap.size, 7, none⟩ = some (.slice none 0 0) ∧ w'.cell? ⟨w3.heap.size, 8, none⟩ = some (.pointer none) ∧ w'.cell? ⟨w4.heap.size, 0, none⟩ = some (.int .i64 1) ∧ w'.cell? ⟨w4.heap.size, 1, none⟩ = some (.int .i64 k) ∧ w'.cell? ⟨w4.heap.size, 2, none⟩ = some (.bool u) ∧ w'.cell? ⟨w4.heap.size, 3, none⟩ = some (.bool v) ∧ w'.cell? ⟨w4.heap.size, 4, none⟩ = some (.pointer none) ∧ w'.cell? ⟨w4.heap.size, 5, none⟩ = some (.int .i64 0) ∧ w'.cell? ⟨w4.heap.size, 6, none⟩ = some (.int .i64 0) ∧ w'.cell? ⟨w4.heap.size, 7, none⟩ = some (.slice none 0 0) ∧ w'.cell? ⟨w4.heap.size, 8, none⟩ = some (.pointer none) ∧ w'.cell? ⟨w5.heap.size, 0, none⟩ = some (.int .i64 1) ∧ w'.cell? ⟨w5.heap.size, 1, none⟩ = some (.int .i64 4) ∧ w'.cell? ⟨w5.heap.size, 2, none⟩ = some (.bool true) ∧ w'.cell? ⟨w5.heap.size, 3, none⟩ = some (.bool c) ∧ w'.cell? ⟨w5.heap.size, 4, none⟩ = some (.pointer none) ∧ w'.cell? ⟨w5.heap.size, 5, none⟩ = some (.int .i64 0) ∧ w'.cell? ⟨w5.heap.size, 6, none⟩ = some (.int .i64 0) ∧ w'.cell? ⟨w5.heap.size, 7, none⟩ = some (.slice none 0 0) ∧ w'.cell? ⟨w5.heap.size, 8, none⟩ = some (.pointer none))) (by kernel_rfl) (by go_keep) (fun hHeld => ?_)
    refine takeD (i := 0) (d := 33) (v := ?_) rfl rfl (by kernel_rfl) (by kernel_rfl) (by kernel_rfl) (fun _ _ _ h => h) (Or.inl ⟨by rfl, ?_⟩) (by assumption) ?_
    rotate_left
    · intro w hSw
      (try dsimp only at hSw)
      go_simp
      (try with_reducible rfl)
    (try simp only [Act.put, List.setIfInBounds_toArray, List.set_cons_zero, List.set_cons_succ])
    refine takeD (i := 1) (d := 34) (v := ?_) rfl rfl (by kernel_rfl) (by kernel_rfl) (by kernel_rfl) (fun _ _ _ h => h) (Or.inl ⟨by rfl, ?_⟩) (by assumption) ?_
    rotate_left
    · intro w hSw
      (try dsimp only at hSw)
      go_simp
      (try with_reducible rfl)
    (try simp only [Act.put, List.setIfInBounds_toArray, List.set_cons_zero, List.set_cons_succ])
    refine takeD (i := 2) (d := 35) (v := ?_) rfl rfl (by kernel_rfl) (by kernel_rfl) (by kernel_rfl) (fun _ _ _ h => h) (Or.inl ⟨by rfl, ?_⟩) (by assumption) ?_
    rotate_left
    · intro w hSw
      (try dsimp only at hSw)
      go_simp
      (try with_reducible rfl)
    (try simp only [Act.put, List.setIfInBounds_toArray, List.set_cons_zero, List.set_cons_succ])
    refine wpAnyH_ready (rs := [3]) (by kernel_rfl) (by simp) ?_
    refine AllReadyH.cons rfl (fun K hK => ?_) AllReadyH.nil
    go_simp
    go_at_call 16
    (with_reducible refine (H2.out _).mono ?_)
    rintro e u_1 ⟨rfl, hb1⟩
    have HC1 : Hid (Below V4.heap.size V4 u_1) := Lib.hid ((Below.refl V4.heap.size V4).drew.trans hb1)
    obtain ⟨x1_0, x1_1, x1_2, x1_3, x1_4, x1_5, x1_6, x1_7, x1_8⟩ := HKx_V4.out.below HC1.out LX.out
    obtain ⟨y1_0, y1_1, y1_2, y1_3, y1_4, y1_5, y1_6, y1_7, y1_8⟩ := HKy_V4.out.below HC1.out LY.out
    obtain ⟨z1_0, z1_1, z1_2, z1_3, z1_4, z1_5, z1_6, z1_7, z1_8⟩ := HKz_V4.out.below HC1.out LZ.out
    obtain ⟨p1_0, p1_1, p1_2, p1_3, p1_4, p1_5, p1_6, p1_7, p1_8⟩ := HKp.out.below HC1.out LP.out
    clear hb1 x0_0 x0_1 x0_2 x0_3 x0_4 x0_5 x0_6 x0_7 x0_8 y0_0 y0_1 y0_2 y0_3 y0_4 y0_5 y0_6 y0_7 y0_8 z0_0 z0_1 z0_2 z0_3 z0_4 z0_5 z0_6 z0_7 z0_8 p0_0 p0_1 p0_2 p0_3 p0_4 p0_5 p0_6 p0_7 p0_8
    refine hK.out _ _ ?_ (fun hHeld2 => ?_)
    · go_keep
    clear hHeld hK K
    have hHeld := hHeld2
    clear hHeld2
    (try simp only [Act.put, List.setIfInBounds_toArray, List.set_cons_zero, List.set_cons_succ])
    refine wpAnyH_ready (rs := [4]) (by kernel_rfl) (by simp) ?_
    refine AllReadyH.cons rfl (fun K hK => ?_) AllReadyH.nil
    go_simp
    go_at_call 12
    (with_reducible refine (HS.out _).mono ?_)
    rintro e u_2 ⟨rfl, hb2⟩
    have HC2 : Hid (Below V4.heap.size V4 u_2) := Lib.hid (HC1.out.trans (hb2.mono HC1.out.size))
    obtain ⟨x2_0, x2_1, x2_2, x2_3, x2_4, x2_5, x2_6, x2_7, x2_8⟩ := HKx_V4.out.below HC2.out LX.out
    obtain ⟨y2_0, y2_1, y2_2, y2_3, y2_4, y2_5, y2_6, y2_7, y2_8⟩ := HKy_V4.out.below HC2.out LY.out
    obtain ⟨z2_0, z2_1, z2_2, z2_3, z2_4, z2_5, z2_6, z2_7, z2_8⟩ := HKz_V4.out.below HC2.out LZ.out
    obtain ⟨p2_0, p2_1, p2_2, p2_3, p2_4, p2_5, p2_6, p2_7, p2_8⟩ := HKp.out.below HC2.out LP.out
    clear hb2 x1_0 x1_1 x1_2 x1_3 x1_4 x1_5 x1_6 x1_7 x1_8 y1_0 y1_1 y1_2 y1_3 y1_4 y1_5 y1_6 y1_7 y1_8 z1_0 z1_1 z1_2 z1_3 z1_4 z1_5 z1_6 z1_7 z1_8 p1_0 p1_1 p1_2 p1_3 p1_4 p1_5 p1_6 p1_7 p1_8
    refine hK.out _ _ ?_ (fun hHeld2 => ?_)
    · go_keep
    clear hHeld hK K
    have hHeld := hHeld2
    clear hHeld2
    (try simp only [Act.put, List.setIfInBounds_toArray, List.set_cons_zero, List.set_cons_succ])
    refine takeD (i := 5) (d := 38) (v := ?_) rfl rfl (by kernel_rfl) (by kernel_rfl) (by kernel_rfl) (fun _ _ _ h => h) (Or.inl ⟨by rfl, ?_⟩) (by assumption) ?_
    rotate_left
    · intro w hSw
      (try dsimp only at hSw)
      go_simp
      (try with_reducible rfl)
    (try simp only [Act.put, List.setIfInBounds_toArray, List.set_cons_zero, List.set_cons_succ])
    refine takeD (i := 6) (d := 39) (v := ?_) rfl rfl (by kernel_rfl) (by kernel_rfl) (by kernel_rfl) (fun _ _ _ h => h) (Or.inl ⟨by rfl, ?_⟩) (by assumption) ?_
    rotate_left
    · intro w hSw
      (try dsimp only at hSw)
      go_simp
      (try with_reducible rfl)
    (try simp only [Act.put, List.setIfInBounds_toArray, List.set_cons_zero, List.set_cons_succ])
    refine takeD (i := 7) (d := 40) (v := ?_) rfl rfl (by kernel_rfl) (by kernel_rfl) (by kernel_rfl) (fun _ _ _ h => h) (Or.inl ⟨by rfl, ?_⟩) (by assumption) ?_
    rotate_left
    · intro w hSw
      (try dsimp only at hSw)
      go_simp
      (try with_reducible rfl)
    (try simp only [Act.put, List.setIfInBounds_toArray, List.set_cons_zero, List.set_cons_succ])
    refine takeD (i := 8) (d := 41) (v := ?_) rfl rfl (by kernel_rfl) (by kernel_rfl) (by kernel_rfl) (fun _ _ _ h => h) (Or.inl ⟨by rfl, ?_⟩) (by assumption) ?_
    rotate_left
    · intro w hSw
      (try dsimp only at hSw)
      go_simp
      (try with_reducible rfl)
    (try simp only [Act.put, List.setIfInBounds_toArray, List.set_cons_zero, List.set_cons_succ])
    refine takeD (i := 9) (d := 42) (v := ?_) rfl rfl (by kernel_rfl) (by kernel_rfl) (by kernel_rfl) (fun _ _ _ h => h) (Or.inl ⟨by rfl, ?_⟩) (by assumption) ?_
    rotate_left
    · intro w hSw
      (try dsimp only at hSw)
      go_simp
      (try with_reducible rfl)
    (try simp only [Act.put, List.setIfInBounds_toArray, List.set_cons_zero, List.set_cons_succ])
    refine wpAnyH_ready (rs := [10]) (by kernel_rfl) (by simp) ?_
    refine AllReadyH.cons rfl (fun K hK => ?_) AllReadyH.nil
    go_simp
    go_at_call 14
    (with_reducible refine (H3.out _).mono ?_)
    rintro e u_3 ⟨rfl, hb3⟩
    have HC3 : Hid (Below V4.heap.size V4 u_3) := Lib.hid (HC2.out.trans (hb3.mono HC2.out.size))
    obtain ⟨x3_0, x3_1, x3_2, x3_3, x3_4, x3_5, x3_6, x3_7, x3_8⟩ := HKx_V4.out.below HC3.out LX.out
    obtain ⟨y3_0, y3_1, y3_2, y3_3, y3_4, y3_5, y3_6, y3_7, y3_8⟩ := HKy_V4.out.below HC3.out LY.out
    obtain ⟨z3_0, z3_1, z3_2, z3_3, z3_4, z3_5, z3_6, z3_7, z3_8⟩ := HKz_V4.out.below HC3.out LZ.out
    obtain ⟨p3_0, p3_1, p3_2, p3_3, p3_4, p3_5, p3_6, p3_7, p3_8⟩ := HKp.out.below HC3.out LP.out
    clear hb3 x2_0 x2_1 x2_2 x2_3 x2_4 x2_5 x2_6 x2_7 x2_8 y2_0 y2_1 y2_2 y2_3 y2_4 y2_5 y2_6 y2_7 y2_8 z2_0 z2_1 z2_2 z2_3 z2_4 z2_5 z2_6 z2_7 z2_8 p2_0 p2_1 p2_2 p2_3 p2_4 p2_5 p2_6 p2_7 p2_8
    refine hK.out _ _ ?_ (fun hHeld2 => ?_)
    · go_keep
    clear hHeld hK K
    have hHeld := hHeld2
    clear hHeld2
    (try simp only [Act.put, List.setIfInBounds_toArray, List.set_cons_zero, List.set_cons_succ])
    refine wpAnyH_ready (rs := [11]) (by kernel_rfl) (by simp) ?_
    refine AllReadyH.cons rfl (fun K hK => ?_) AllReadyH.nil
    go_simp
    go_at_call 12
    (with_reducible refine (HS.out _).mono ?_)
    rintro e u_4 ⟨rfl, hb4⟩
    have HC4 : Hid (Below V4.heap.size V4 u_4) := Lib.hid (HC3.out.trans (hb4.mono HC3.out.size))
    obtain ⟨x4_0, x4_1, x4_2, x4_3, x4_4, x4_5, x4_6, x4_7, x4_8⟩ := HKx_V4.out.below HC4.out LX.out
    obtain ⟨y4_0, y4_1, y4_2, y4_3, y4_4, y4_5, y4_6, y4_7, y4_8⟩ := HKy_V4.out.below HC4.out LY.out
    obtain ⟨z4_0, z4_1, z4_2, z4_3, z4_4, z4_5, z4_6, z4_7, z4_8⟩ := HKz_V4.out.below HC4.out LZ.out
    obtain ⟨p4_0, p4_1, p4_2, p4_3, p4_4, p4_5, p4_6, p4_7, p4_8⟩ := HKp.out.below HC4.out LP.out
    clear hb4 x3_0 x3_1 x3_2 x3_3 x3_4 x3_5 x3_6 x3_7 x3_8 y3_0 y3_1 y3_2 y3_3 y3_4 y3_5 y3_6 y3_7 y3_8 z3_0 z3_1 z3_2 z3_3 z3_4 z3_5 z3_6 z3_7 z3_8 p3_0 p3_1 p3_2 p3_3 p3_4 p3_5 p3_6 p3_7 p3_8
    refine hK.out _ _ ?_ (fun hHeld2 => ?_)
    · go_keep
    clear hHeld hK K
    have hHeld := hHeld2
    clear hHeld2
    (try simp only [Act.put, List.setIfInBounds_toArray, List.set_cons_zero, List.set_cons_succ])
    refine takeD (i := 12) (d := 45) (v := ?_) rfl rfl (by kernel_rfl) (by kernel_rfl) (by kernel_rfl) (fun _ _ _ h => h) (Or.inl ⟨by rfl, ?_⟩) (by assumption) ?_
    rotate_left
    · intro w hSw
      (try dsimp only at hSw)
      go_simp
      (try with_reducible rfl)
    (try simp only [Act.put, List.setIfInBounds_toArray, List.set_cons_zero, List.set_cons_succ])
    refine takeD (i := 13) (d := 46) (v := ?_) rfl rfl (by kernel_rfl) (by kernel_rfl) (by kernel_rfl) (fun _ _ _ h => h) (Or.inl ⟨by rfl, ?_⟩) (by assumption) ?_
    rotate_left
    · intro w hSw
      (try dsimp only at hSw)
      go_simp
      (try with_reducible rfl)
    (try simp only [Act.put, List.setIfInBounds_toArray, List.set_cons_zero, List.set_cons_succ])
    refine takeD (i := 14) (d := 47) (v := ?_) rfl rfl (by kernel_rfl) (by kernel_rfl) (by kernel_rfl) (fun _ _ _ h => h) (Or.inl ⟨by rfl, ?_⟩) (by assumption) ?_
    rotate_left
    · intro w hSw
      (try dsimp only at hSw)
      go_simp
      (try with_reducible rfl)
    (try simp only [Act.put, List.setIfInBounds_toArray, List.set_cons_zero, List.set_cons_succ])
    refine takeD (i := 15) (d := 48) (v := ?_) rfl rfl (by kernel_rfl) (by kernel_rfl) (by kernel_rfl) (fun _ _ _ h => h) (Or.inl ⟨by rfl, ?_⟩) (by assumption) ?_
    rotate_left
    · intro w hSw
      (try dsimp only at hSw)
      go_simp
      (try with_reducible rfl)
    (try simp only [Act.put, List.setIfInBounds_toArray, List.set_cons_zero, List.set_cons_succ])
    refine takeD (i := 16) (d := 49) (v := ?_) rfl rfl (by kernel_rfl) (by kernel_rfl) (by kernel_rfl) (fun _ _ _ h => h) (Or.inl ⟨by rfl, ?_⟩) (by assumption) ?_
    rotate_left
    · intro w hSw
      (try dsimp only at hSw)
      go_simp
      (try with_reducible rfl)
    (try simp only [Act.put, List.setIfInBounds_toArray, List.set_cons_zero, List.set_cons_succ])
    refine takeD (i := 17) (d := 50) (v := ?_) rfl rfl (by kernel_rfl) (by kernel_rfl) (by kernel_rfl) (fun _ _ _ h => h) (Or.inl ⟨by rfl, ?_⟩) (by assumption) ?_
    rotate_left
    · intro w hSw
      (try dsimp only at hSw)
      go_simp
      (try with_reducible rfl)
    (try simp only [Act.put, List.setIfInBounds_toArray, List.set_cons_zero, List.set_cons_succ])
    refine takeD (i := 18) (d := 51) (v := ?_) rfl rfl (by kernel_rfl) (by kernel_rfl) (by kernel_rfl) (fun _ _ _ h => h) (Or.inl ⟨by rfl, ?_⟩) (by assumption) ?_
    rotate_left
    · intro w hSw
      (try dsimp only at hSw)
      go_simp
      (try with_reducible rfl)
    (try simp only [Act.put, List.setIfInBounds_toArray, List.set_cons_zero, List.set_cons_succ])
    refine takeD (i := 19) (d := 52) (v := ?_) rfl rfl (by kernel_rfl) (by kernel_rfl) (by kernel_rfl) (fun _ _ _ h => h) (Or.inl ⟨by rfl, ?_⟩) (by assumption) ?_
    rotate_left
    · intro w hSw
      (try dsimp only at hSw)
      go_simp
      (try with_reducible rfl)
    (try simp only [Act.put, List.setIfInBounds_toArray, List.set_cons_zero, List.set_cons_succ])
    refine takeD (i := 20) (d := 53) (v := ?_) rfl rfl (by kernel_rfl) (by kernel_rfl) (by kernel_rfl) (fun _ _ _ h => h) (Or.inl ⟨by rfl, ?_⟩) (by assumption) ?_
    rotate_left
    · intro w hSw
      (try dsimp only at hSw)
      go_simp
      (try with_reducible rfl)
    (try simp only [Act.put, List.setIfInBounds_toArray, List.set_cons_zero, List.set_cons_succ])
    refine takeD (i := 21) (d := 54) (v := ?_) rfl rfl (by kernel_rfl) (by kernel_rfl) (by kernel_rfl) (fun _ _ _ h => h) (Or.inl ⟨by rfl, ?_⟩) (by assumption) ?_
    rotate_left
    · intro w hSw
      (try dsimp only at hSw)
      go_simp
      (try with_reducible rfl)
    (try simp only [Act.put, List.setIfInBounds_toArray, List.set_cons_zero, List.set_cons_succ])
    refine takeD (i := 22) (d := 55) (v := ?_) rfl rfl (by kernel_rfl) (by kernel_rfl) (by kernel_rfl) (fun _ _ _ h => h) (Or.inl ⟨by rfl, ?_⟩) (by assumption) ?_
    rotate_left
    · intro w hSw
      (try dsimp only at hSw)
      go_simp
      (try with_reducible rfl)
    (try simp only [Act.put, List.setIfInBounds_toArray, List.set_cons_zero, List.set_cons_succ])
    refine takeD (i := 23) (d := 56) (v := ?_) rfl rfl (by kernel_rfl) (by kernel_rfl) (by kernel_rfl) (fun _ _ _ h => h) (Or.inl ⟨by rfl, ?_⟩) (by assumption) ?_
    rotate_left
    · intro w hSw
      (try dsimp only at hSw)
      go_simp
      (try with_reducible rfl)
    (try simp only [Act.put, List.setIfInBounds_toArray, List.set_cons_zero, List.set_cons_succ])
    refine takeD (i := 24) (d := 57) (v := ?_) rfl rfl (by kernel_rfl) (by kernel_rfl) (by kernel_rfl) (fun _ _ _ h => h) (Or.inl ⟨by rfl, ?_⟩) (by assumption) ?_
    rotate_left
    · intro w hSw
      (try dsimp only at hSw)
      go_simp
      (try with_reducible rfl)
    (try simp only [Act.put, List.setIfInBounds_toArray, List.set_cons_zero, List.set_cons_succ])
    refine takeD (i := 25) (d := 58) (v := ?_) rfl rfl (by kernel_rfl) (by kernel_rfl) (by kernel_rfl) (fun _ _ _ h => h) (Or.inl ⟨by rfl, ?_⟩) (by assumption) ?_
    rotate_left
    · intro w hSw
      (try dsimp only at hSw)
      go_simp
      (try with_reducible rfl)
    (try simp only [Act.put, List.setIfInBounds_toArray, List.set_cons_zero, List.set_cons_succ])
    refine takeD (i := 26) (d := 59) (v := ?_) rfl rfl (by kernel_rfl) (by kernel_rfl) (by kernel_rfl) (fun _ _ _ h => h) (Or.inl ⟨by rfl, ?_⟩) (by assumption) ?_
    rotate_left
    · intro w hSw
      (try dsimp only at hSw)
      go_simp
      (try with_reducible rfl)
    (try simp only [Act.put, List.setIfInBounds_toArray, List.set_cons_zero, List.set_cons_succ])
    refine takeD (i := 27) (d := 60) (v := ?_) rfl rfl (by kernel_rfl) (by kernel_rfl) (by kernel_rfl) (fun _ _ _ h => h) (Or.inl ⟨by rfl, ?_⟩) (by assumption) ?_
    rotate_left
    · intro w hSw
      (try dsimp only at hSw)
      go_simp
      (try with_reducible rfl)
    (try simp only [Act.put, List.setIfInBounds_toArray, List.set_cons_zero, List.set_cons_succ])
    refine takeD (i := 28) (d := 61) (v := ?_) rfl rfl (by kernel_rfl) (by kernel_rfl) (by kernel_rfl) (fun _ _ _ h => h) (Or.inl ⟨by rfl, ?_⟩) (by assumption) ?_
    rotate_left
    · intro w hSw
      (try dsimp only at hSw)
      go_simp
      (try with_reducible rfl)
    (try simp only [Act.put, List.setIfInBounds_toArray, List.set_cons_zero, List.set_cons_succ])
    refine takeD (i := 29) (d := 62) (v := ?_) rfl rfl (by kernel_rfl) (by kernel_rfl) (by kernel_rfl) (fun _ _ _ h => h) (Or.inl ⟨by rfl, ?_⟩) (by assumption) ?_
    rotate_left
    · intro w hSw
      (try dsimp only at hSw)
      go_simp
      (try with_reducible rfl)
    (try simp only [Act.put, List.setIfInBounds_toArray, List.set_cons_zero, List.set_cons_succ])
    refine takeD (i := 30) (d := 63) (v := ?_) rfl rfl (by kernel_rfl) (by kernel_rfl) (by kernel_rfl) (fun _ _ _ h => h) (Or.inl ⟨by rfl, ?_⟩) (by assumption) ?_
    rotate_left
    · intro w hSw
      (try dsimp only at hSw)
      go_simp
      (try with_reducible rfl)
    (try simp only [Act.put, List.setIfInBounds_toArray, List.set_cons_zero, List.set_cons_succ])
    refine takeD (i := 31) (d := 64) (v := undef) rfl rfl (by kernel_rfl) (by kernel_rfl) (by kernel_rfl) (fun _ _ _ h => h) (Or.inr ⟨by rfl, rfl⟩) (by assumption) ?_
    (try simp only [Act.put, List.setIfInBounds_toArray, List.set_cons_zero, List.set_cons_succ])
    refine takeD (i := 32) (d := 65) (v := undef) rfl rfl (by kernel_rfl) (by kernel_rfl) (by kernel_rfl) (fun _ _ _ h => h) (Or.inr ⟨by rfl, rfl⟩) (by assumption) ?_
    (try simp only [Act.put, List.setIfInBounds_toArray, List.set_cons_zero, List.set_cons_succ])
    refine wpAnyH_ready (rs := [33]) (by kernel_rfl) (by simp) ?_
    refine AllReadyH.cons rfl (fun K hK => ?_) AllReadyH.nil
    go_simp
    refine hK.out _ _ ?_ (fun hHeld2 => ?_)
    · go_keep
    clear hHeld hK K
    have hHeld := hHeld2
    clear hHeld2
    (try simp only [Act.put, List.setIfInBounds_toArray, List.set_cons_zero, List.set_cons_succ])
    refine takeD (i := 34) (d := 67) (v := undef) rfl rfl (by kernel_rfl) (by kernel_rfl) (by kernel_rfl) (fun _ _ _ h => h) (Or.inr ⟨by rfl, rfl⟩) (by assumption) ?_
    (try simp only [Act.put, List.setIfInBounds_toArray, List.set_cons_zero, List.set_cons_succ])
    refine takeD (i := 35) (d := 68) (v := ?_) rfl rfl (by kernel_rfl) (by kernel_rfl) (by kernel_rfl) (fun _ _ _ h => h) (Or.inl ⟨by rfl, ?_⟩) (by assumption) ?_
    rotate_left
    · intro w hSw
      (try dsimp only at hSw)
      go_simp
      (try with_reducible rfl)
    (try simp only [Act.put, List.setIfInBounds_toArray, List.set_cons_zero, List.set_cons_succ])
    refine takeD (i := 36) (d := 69) (v := ?_) rfl rfl (by kernel_rfl) (by kernel_rfl) (by kernel_rfl) (fun _ _ _ h => h) (Or.inl ⟨by rfl, ?_⟩) (by assumption) ?_
    rotate_left
    · intro w hSw
      (try dsimp only at hSw)
      go_simp
      (try with_reducible rfl)
    (try simp only [Act.put, List.setIfInBounds_toArray, List.set_cons_zero, List.set_cons_succ])
    refine takeD (i := 37) (d := 70) (v := ?_) rfl rfl (by kernel_rfl) (by kernel_rfl) (by kernel_rfl) (fun _ _ _ h => h) (Or.inl ⟨by rfl, ?_⟩) (by assumption) ?_
    rotate_left
    · intro w hSw
      (try dsimp only at hSw)
      go_simp
      (try with_reducible rfl)
    (try simp only [Act.put, List.setIfInBounds_toArray, List.set_cons_zero, List.set_cons_succ])
    refine takeD (i := 38) (d := 71) (v := ?_) rfl rfl (by kernel_rfl) (by kernel_rfl) (by kernel_rfl) (fun _ _ _ h => h) (Or.inl ⟨by rfl, ?_⟩) (by assumption) ?_
    rotate_left
    · intro w hSw
      (try dsimp only at hSw)
      go_simp
      (try with_reducible rfl)
    (try simp only [Act.put, List.setIfInBounds_toArray, List.set_cons_zero, List.set_cons_succ])
    refine takeD (i := 39) (d := 72) (v := ?_) rfl rfl (by kernel_rfl) (by kernel_rfl) (by kernel_rfl) (fun _ _ _ h => h) (Or.inl ⟨by rfl, ?_⟩) (by assumption) ?_
    rotate_left
    · intro w hSw
      (try dsimp only at hSw)
      go_simp
      (try with_reducible rfl)
    (try simp only [Act.put, List.setIfInBounds_toArray, List.set_cons_zero, List.set_cons_succ])
    refine takeD (i := 40) (d := 73) (v := ?_) rfl rfl (by kernel_rfl) (by kernel_rfl) (by kernel_rfl) (fun _ _ _ h => h) (Or.inl ⟨by rfl, ?_⟩) (by assumption) ?_
    rotate_left
    · intro w hSw
      (try dsimp only at hSw)
      go_simp
      (try with_reducible rfl)
    (try simp only [Act.put, List.setIfInBounds_toArray, List.set_cons_zero, List.set_cons_succ])
    refine takeD (i := 41) (d := 74) (v := ?_) rfl rfl (by kernel_rfl) (by kernel_rfl) (by kernel_rfl) (fun _ _ _ h => h) (Or.inl ⟨by rfl, ?_⟩) (by assumption) ?_
    rotate_left
    · intro w hSw
      (try dsimp only at hSw)
      go_simp
      (try with_reducible rfl)
    (try simp only [Act.put, List.setIfInBounds_toArray, List.set_cons_zero, List.set_cons_succ])
    refine takeD (i := 42) (d := 75) (v := ?_) rfl rfl (by kernel_rfl) (by kernel_rfl) (by kernel_rfl) (fun _ _ _ h => h) (Or.inl ⟨by rfl, ?_⟩) (by assumption) ?_
    rotate_left
    · intro w hSw
      (try dsimp only at hSw)
      go_simp
      (try with_reducible rfl)
    (try simp only [Act.put, List.setIfInBounds_toArray, List.set_cons_zero, List.set_cons_succ])
    refine takeD (i := 43) (d := 76) (v := ?_) rfl rfl (by kernel_rfl) (by kernel_rfl) (by kernel_rfl) (fun _ _ _ h => h) (Or.inl ⟨by rfl, ?_⟩) (by assumption) ?_
    rotate_left
    · intro w hSw
      (try dsimp only at hSw)
      go_simp
      (try with_reducible rfl)
    (try simp only [Act.put, List.setIfInBounds_toArray, List.set_cons_zero, List.set_cons_succ])
    refine takeD (i := 44) (d := 77) (v := ?_) rfl rfl (by kernel_rfl) (by kernel_rfl) (by kernel_rfl) (fun _ _ _ h => h) (Or.inl ⟨by rfl, ?_⟩) (by assumption) ?_
    rotate_left
    · intro w hSw
      (try dsimp only at hSw)
      go_simp
      (try with_reducible rfl)
    (try simp only [Act.put, List.setIfInBounds_toArray, List.set_cons_zero, List.set_cons_succ])
    refine takeD (i := 45) (d := 78) (v := ?_) rfl rfl (by kernel_rfl) (by kernel_rfl) (by kernel_rfl) (fun _ _ _ h => h) (Or.inl ⟨by rfl, ?_⟩) (by assumption) ?_
    rotate_left
    · intro w hSw
      (try dsimp only at hSw)
      go_simp
      (try with_reducible rfl)
    (try simp only [Act.put, List.setIfInBounds_toArray, List.set_cons_zero, List.set_cons_succ])
    refine takeD (i := 46) (d := 79) (v := ?_) rfl rfl (by kernel_rfl) (by kernel_rfl) (by kernel_rfl) (fun _ _ _ h => h) (Or.inl ⟨by rfl, ?_⟩) (by assumption) ?_
    rotate_left
    · intro w hSw
      (try dsimp only at hSw)
      go_simp
      (try with_reducible rfl)
    (try simp only [Act.put, List.setIfInBounds_toArray, List.set_cons_zero, List.set_cons_succ])
    refine wpAnyH_done (by kernel_rfl) ?_ _
    clear hHeld
    have HBU := Lib.hid (HBV4.out.trans (HC4.out.mono HBV4.out.size))
    have HLU : Hid (w2.heap.size < u_4.heap.size) := Lib.hid (by have := HC4.out.size; have := LX.out; omega)
    have HKU : Hid (I9 u_4 w2.heap.size 2 s c) := Lib.hid (HKx_V4.out.below HC4.out LX.out)
    clear y4_0 y4_1 y4_2 y4_3 y4_4 y4_5 y4_6 y4_7 y4_8 z4_0 z4_1 z4_2 z4_3 z4_4 z4_5 z4_6 z4_7 z4_8 p4_0 p4_1 p4_2 p4_3 p4_4 p4_5 p4_6 p4_7 p4_8
    go_wp2_with fail
    (with_reducible refine (HQ.out _).mono ?_)
    rintro e w6 ⟨g, rfl, hg, hgi, hb6⟩
    have HB6 := Lib.hid (HBU.out.trans (hb6.mono HBU.out.size))
    have HK6 : Hid (I9 w6 w2.heap.size 2 s c) := Lib.hid (HKU.out.below hb6 HLU.out)
    have HL6 : Hid (w2.heap.size < w6.heap.size) := Lib.hid (by have := hb6.size; have := HLU.out; omega)
    have HG6 := Lib.hid hg
    have HI6 := Lib.hid hgi
    clear hb6 hg hgi x4_0 x4_1 x4_2 x4_3 x4_4 x4_5 x4_6 x4_7 x4_8
    go_wp2_with fail
    generalize hW : w6.alloc _ = V5
    have HKq : Hid (Q9 V5 w6.heap.size g) := Lib.hid (by rw [← hW]; exact q9_alloc w6 g _)
    have HBV5 : Hid (Below w.heap.size w V5) := Lib.hid (by rw [← hW]; exact HB6.out.alloc HB6.out.size _)
    have HSV5 : Hid (V5.heap.size = w6.heap.size + 1) := Lib.hid (by rw [← hW]; simp)
    have HKx5v : Hid (I9 V5 w2.heap.size 2 s c) := Lib.hid (HK6.out.below (lim := w6.heap.size) (by rw [← hW]; exact (Below.refl _ _).alloc (Nat.le_refl _) _) HL6.out)
    have HIg : Hid (I9 V5 g 2 s c) := Lib.hid (HI6.out.below (lim := w6.heap.size) (by rw [← hW]; exact (Below.refl _ _).alloc (Nat.le_refl _) _) HG6.out)
    clear hW
    have GX : Hid (w2.heap.size < V5.heap.size) := Lib.hid (by have := HL6.out; have := HSV5.out; omega)
    have GQ : Hid (w6.heap.size < V5.heap.size) := Lib.hid (by have := HSV5.out; omega)
    have GG : Hid (g < V5.heap.size) := Lib.hid (by have := HG6.out; have := HSV5.out; omega)
    obtain ⟨x20_0, x20_1, x20_2, x20_3, x20_4, x20_5, x20_6, x20_7, x20_8⟩ := HKx5v.out
    obtain ⟨q20_0, q20_1, q20_2, q20_3, q20_4, q20_5, q20_6, q20_7, q20_8⟩ := HKq.out
    refine wp_region_held_drew (S := (fun w' => w'.cell? ⟨w2.heap.size, 0, none⟩ = some (.int .i64 1) ∧ w'.cell? ⟨w2.heap.size, 1, none⟩ = some (.int .i64 2) ∧ w'.cell? ⟨w2.heap.size, 2, none⟩ = some (.bool s) ∧ w'.cell? ⟨w2.heap.size, 3, none⟩ = some (.bool c) ∧ w'.cell? ⟨w2.heap.size, 4, none⟩ = some (.pointer none) ∧ w'.cell? ⟨w2.heap.size, 5, none⟩ = some (.int .i64 0) ∧ w'.cell? ⟨w2.heap.size, 6, none⟩ = some (.int .i64 0) ∧ w'.cell? ⟨w2.heap.size, 7, none⟩ = some (.slice none 0 0) ∧ w'.cell? ⟨w2.heap.size, 8, none⟩ = some (.pointer none) ∧ w'.cell? ⟨w6.heap.size, 0, none⟩ = some (.int .i64 2) ∧ w'.cell? ⟨w6.heap.size, 1, none⟩ = some (.int .i64 8) ∧ w'.cell? ⟨w6.heap.size, 2, none⟩ = some (.bool false) ∧ w'.cell? ⟨w6.heap.size, 3, none⟩ = some (.bool false) ∧ w'.cell? ⟨w6.heap.size, 4, none⟩ = some (.pointer (some ⟨g, 0, none⟩)) ∧ w'.cell? ⟨w6.heap.size, 5, none⟩ = some (.int .i64 0) ∧ w'.cell? ⟨w6.heap.size, 6, none⟩ = some (.int .i64 0) ∧ w'.cell? ⟨w6.heap.size, 7, none⟩ = some (.slice none 0 0) ∧ w'.cell? ⟨w6.heap.size, 8, none⟩ = some (.pointer none))) (by kernel_rfl) (by go_keep) (fun hHeld => ?_)
    refine takeD (i := 0) (d := 82) (v := ?_) rfl rfl (by kernel_rfl) (by kernel_rfl) (by kernel_rfl) (fun _ _ _ h => h) (Or.inl ⟨by rfl, ?_⟩) (by assumption) ?_
    rotate_left
    · intro w hSw
      (try dsimp only at hSw)
      go_simp
      (try with_reducible rfl)
    (try simp only [Act.put, List.setIfInBounds_toArray, List.set_cons_zero, List.set_cons_succ])
    refine takeD (i := 2) (d := 84) (v := ?_) rfl rfl (by kernel_rfl) (by kernel_rfl) (by kernel_rfl) (fun _ _ _ h => h) (Or.inl ⟨by rfl, ?_⟩) (by assumption) ?_
    rotate_left
    · intro w hSw
      (try dsimp only at hSw)
      go_simp
      (try with_reducible rfl)
    (try simp only [Act.put, List.setIfInBounds_toArray, List.set_cons_zero, List.set_cons_succ])
    refine wpAnyH_ready (rs := [1]) (by kernel_rfl) (by simp) ?_
    refine AllReadyH.cons rfl (fun K hK => ?_) AllReadyH.nil
    go_simp
    (go_at_call 15)
    refine (HPQ.out g _ (by exact GG.out) (HIg.out.below (lim := V5.heap.size) ((Below.refl _ _).drew) GG.out)).mono ?_
    rintro e r_21 ⟨f, rfl, hf, hfi, hb21⟩
    have HD21 : Hid (Below V5.heap.size V5 r_21) := Lib.hid ((Below.refl V5.heap.size V5).drew.trans hb21)
    have HF := Lib.hid hf
    have HFI := Lib.hid hfi
    clear hf hfi
    obtain ⟨x21_0, x21_1, x21_2, x21_3, x21_4, x21_5, x21_6, x21_7, x21_8⟩ := HKx5v.out.below HD21.out GX.out
    obtain ⟨q21_0, q21_1, q21_2, q21_3, q21_4, q21_5, q21_6, q21_7, q21_8⟩ := HKq.out.below HD21.out GQ.out
    clear hb21 x20_0 x20_1 x20_2 x20_3 x20_4 x20_5 x20_6 x20_7 x20_8 q20_0 q20_1 q20_2 q20_3 q20_4 q20_5 q20_6 q20_7 q20_8
    refine hK.out _ _ ?_ (fun hHeld2 => ?_)
    · go_keep
    clear hHeld hK K
    have hHeld := hHeld2
    clear hHeld2
    (try simp only [Act.put, List.setIfInBounds_toArray, List.set_cons_zero, List.set_cons_succ])
    refine wpAnyH_ready (rs := [3]) (by kernel_rfl) (by simp) ?_
    refine AllReadyH.cons rfl (fun K hK => ?_) AllReadyH.nil
    go_simp
    (go_at_call 12)
    refine (HSQ.out f g _ HF.out (Nat.lt_of_lt_of_le GG.out HD21.out.size) HFI.out (HIg.out.below HD21.out GG.out)).mono ?_
    rintro e r_22 ⟨rfl, hb22⟩
    have HD22 : Hid (Below V5.heap.size V5 r_22) := Lib.hid (HD21.out.trans (hb22.mono HD21.out.size))
    obtain ⟨x22_0, x22_1, x22_2, x22_3, x22_4, x22_5, x22_6, x22_7, x22_8⟩ := HKx5v.out.below HD22.out GX.out
    obtain ⟨q22_0, q22_1, q22_2, q22_3, q22_4, q22_5, q22_6, q22_7, q22_8⟩ := HKq.out.below HD22.out GQ.out
    clear hb22 x21_0 x21_1 x21_2 x21_3 x21_4 x21_5 x21_6 x21_7 x21_8 q21_0 q21_1 q21_2 q21_3 q21_4 q21_5 q21_6 q21_7 q21_8
    refine hK.out _ _ ?_ (fun hHeld2 => ?_)
    · go_keep
    clear hHeld hK K
    have hHeld := hHeld2
    clear hHeld2
    (try simp only [Act.put, List.setIfInBounds_toArray, List.set_cons_zero, List.set_cons_succ])
    refine takeD (i := 4) (d := 86) (v := ?_) rfl rfl (by kernel_rfl) (by kernel_rfl) (by kernel_rfl) (fun _ _ _ h => h) (Or.inl ⟨by rfl, ?_⟩) (by assumption) ?_
    rotate_left
    · intro w hSw
      (try dsimp only at hSw)
      go_simp
      (try with_reducible rfl)
    (try simp only [Act.put, List.setIfInBounds_toArray, List.set_cons_zero, List.set_cons_succ])
    refine takeD (i := 5) (d := 87) (v := ?_) rfl rfl (by kernel_rfl) (by kernel_rfl) (by kernel_rfl) (fun _ _ _ h => h) (Or.inl ⟨by rfl, ?_⟩) (by assumption) ?_
    rotate_left
    · intro w hSw
      (try dsimp only at hSw)
      go_simp
      (try with_reducible rfl)
    (try simp only [Act.put, List.setIfInBounds_toArray, List.set_cons_zero, List.set_cons_succ])
    refine wpAnyH_ready (rs := [6]) (by kernel_rfl) (by simp) ?_
    refine AllReadyH.cons rfl (fun K hK => ?_) AllReadyH.nil
    go_simp
    (go_at_call 18)
    refine (HO.out _).mono ?_
    rintro e r_23 ⟨rfl, hb23⟩
    have HD23 : Hid (Below V5.heap.size V5 r_23) := Lib.hid (HD22.out.trans (hb23.mono HD22.out.size))
    obtain ⟨x23_0, x23_1, x23_2, x23_3, x23_4, x23_5, x23_6, x23_7, x23_8⟩ := HKx5v.out.below HD23.out GX.out
    obtain ⟨q23_0, q23_1, q23_2, q23_3, q23_4, q23_5, q23_6, q23_7, q23_8⟩ := HKq.out.below HD23.out GQ.out
    clear hb23 x22_0 x22_1 x22_2 x22_3 x22_4 x22_5 x22_6 x22_7 x22_8 q22_0 q22_1 q22_2 q22_3 q22_4 q22_5 q22_6 q22_7 q22_8
    refine hK.out _ _ ?_ (fun hHeld2 => ?_)
    · go_keep
    clear hHeld hK K
    have hHeld := hHeld2
    clear hHeld2
    (try simp only [Act.put, List.setIfInBounds_toArray, List.set_cons_zero, List.set_cons_succ])
    refine wpAnyH_ready (rs := [7]) (by kernel_rfl) (by simp) ?_
    refine AllReadyH.cons rfl (fun K hK => ?_) AllReadyH.nil
    go_simp
    (try go_wp2_with fail)
    refine hK.out _ _ ?_ (fun hHeld2 => ?_)
    · go_keep
    clear hHeld hK K
    have hHeld := hHeld2
    clear hHeld2
    (try simp only [Act.put, List.setIfInBounds_toArray, List.set_cons_zero, List.set_cons_succ])
    refine takeD (i := 8) (d := 90) (v := ?_) rfl rfl (by kernel_rfl) (by kernel_rfl) (by kernel_rfl) (fun _ _ _ h => h) (Or.inl ⟨by rfl, ?_⟩) (by assumption) ?_
    rotate_left
    · intro w hSw
      (try dsimp only at hSw)
      go_simp
      (try with_reducible rfl)
    (try simp only [Act.put, List.setIfInBounds_toArray, List.set_cons_zero, List.set_cons_succ])
    refine takeD (i := 9) (d := 91) (v := ?_) rfl rfl (by kernel_rfl) (by kernel_rfl) (by kernel_rfl) (fun _ _ _ h => h) (Or.inl ⟨by rfl, ?_⟩) (by assumption) ?_
    rotate_left
    · intro w hSw
      (try dsimp only at hSw)
      go_simp
      (try with_reducible rfl)
    (try simp only [Act.put, List.setIfInBounds_toArray, List.set_cons_zero, List.set_cons_succ])
    refine takeD (i := 10) (d := 92) (v := ?_) rfl rfl (by kernel_rfl) (by kernel_rfl) (by kernel_rfl) (fun _ _ _ h => h) (Or.inl ⟨by rfl, ?_⟩) (by assumption) ?_
    rotate_left
    · intro w hSw
      (try dsimp only at hSw)
      go_simp
      (try with_reducible rfl)
    (try simp only [Act.put, List.setIfInBounds_toArray, List.set_cons_zero, List.set_cons_succ])
    refine takeD (i := 11) (d := 93) (v := ?_) rfl rfl (by kernel_rfl) (by kernel_rfl) (by kernel_rfl) (fun _ _ _ h => h) (Or.inl ⟨by rfl, ?_⟩) (by assumption) ?_
    rotate_left
    · intro w hSw
      (try dsimp only at hSw)
      go_simp
      (try with_reducible rfl)
    (try simp only [Act.put, List.setIfInBounds_toArray, List.set_cons_zero, List.set_cons_succ])
    refine wpAnyH_ready (rs := [12]) (by kernel_rfl) (by simp) ?_
    refine AllReadyH.cons rfl (fun K hK => ?_) AllReadyH.nil
    go_simp
    (go_at_call 19)
    refine (HE.out _).mono ?_
    rintro e r_24 ⟨rfl, hb24⟩
    have HD24 : Hid (Below V5.heap.size V5 r_24) := Lib.hid (HD23.out.trans (hb24.mono HD23.out.size))
    obtain ⟨x24_0, x24_1, x24_2, x24_3, x24_4, x24_5, x24_6, x24_7, x24_8⟩ := HKx5v.out.below HD24.out GX.out
    obtain ⟨q24_0, q24_1, q24_2, q24_3, q24_4, q24_5, q24_6, q24_7, q24_8⟩ := HKq.out.below HD24.out GQ.out
    clear hb24 x23_0 x23_1 x23_2 x23_3 x23_4 x23_5 x23_6 x23_7 x23_8 q23_0 q23_1 q23_2 q23_3 q23_4 q23_5 q23_6 q23_7 q23_8
    refine hK.out _ _ ?_ (fun hHeld2 => ?_)
    · go_keep
    clear hHeld hK K
    have hHeld := hHeld2
    clear hHeld2
    (try simp only [Act.put, List.setIfInBounds_toArray, List.set_cons_zero, List.set_cons_succ])
    refine wpAnyH_ready (rs := [13]) (by kernel_rfl) (by simp) ?_
    refine AllReadyH.cons rfl (fun K hK => ?_) AllReadyH.nil
    go_simp
    (try go_wp2_with fail)
    refine hK.out _ _ ?_ (fun hHeld2 => ?_)
    · go_keep
    clear hHeld hK K
    have hHeld := hHeld2
    clear hHeld2
    (try simp only [Act.put, List.setIfInBounds_toArray, List.set_cons_zero, List.set_cons_succ])
    refine takeD (i := 14) (d := 96) (v := ?_) rfl rfl (by kernel_rfl) (by kernel_rfl) (by kernel_rfl) (fun _ _ _ h => h) (Or.inl ⟨by rfl, ?_⟩) (by assumption) ?_
    rotate_left
    · intro w hSw
      (try dsimp only at hSw)
      go_simp
      (try with_reducible rfl)
    (try simp only [Act.put, List.setIfInBounds_toArray, List.set_cons_zero, List.set_cons_succ])
    refine takeD (i := 15) (d := 97) (v := ?_) rfl rfl (by kernel_rfl) (by kernel_rfl) (by kernel_rfl) (fun _ _ _ h => h) (Or.inl ⟨by rfl, ?_⟩) (by assumption) ?_
    rotate_left
    · intro w hSw
      (try dsimp only at hSw)
      go_simp
      (try with_reducible rfl)
    (try simp only [Act.put, List.setIfInBounds_toArray, List.set_cons_zero, List.set_cons_succ])
    refine takeD (i := 16) (d := 98) (v := ?_) rfl rfl (by kernel_rfl) (by kernel_rfl) (by kernel_rfl) (fun _ _ _ h => h) (Or.inl ⟨by rfl, ?_⟩) (by assumption) ?_
    rotate_left
    · intro w hSw
      (try dsimp only at hSw)
      go_simp
      (try with_reducible rfl)
    (try simp only [Act.put, List.setIfInBounds_toArray, List.set_cons_zero, List.set_cons_succ])
    refine takeD (i := 22) (d := 104) (v := ?_) rfl rfl (by kernel_rfl) (by kernel_rfl) (by kernel_rfl) (fun _ _ _ h => h) (Or.inl ⟨by rfl, ?_⟩) (by assumption) ?_
    rotate_left
    · intro w hSw
      (try dsimp only at hSw)
      go_simp
      (try with_reducible rfl)
    (try simp only [Act.put, List.setIfInBounds_toArray, List.set_cons_zero, List.set_cons_succ])
    refine takeD (i := 23) (d := 105) (v := ?_) rfl rfl (by kernel_rfl) (by kernel_rfl) (by kernel_rfl) (fun _ _ _ h => h) (Or.inl ⟨by rfl, ?_⟩) (by assumption) ?_
    rotate_left
    · intro w hSw
      (try dsimp only at hSw)
      go_simp
      (try with_reducible rfl)
    (try simp only [Act.put, List.setIfInBounds_toArray, List.set_cons_zero, List.set_cons_succ])
    refine wpAnyH_ready (rs := [17]) (by kernel_rfl) (by simp) ?_
    refine AllReadyH.cons rfl (fun K hK => ?_) AllReadyH.nil
    go_simp
    (go_at_call 19)
    refine (HEQ.out g _ (Nat.lt_of_lt_of_le GG.out HD24.out.size) (HIg.out.below HD24.out GG.out)).mono ?_
    rintro e r_25 ⟨k2, rfl, hf2, hfi2, hb25⟩
    have HD25 : Hid (Below V5.heap.size V5 r_25) := Lib.hid (HD24.out.trans (hb25.mono HD24.out.size))
    obtain ⟨kk0, kk1, kk2, kk3, kk4, kk5, kk6, kk7, kk8⟩ := hfi2
    obtain ⟨x25_0, x25_1, x25_2, x25_3, x25_4, x25_5, x25_6, x25_7, x25_8⟩ := HKx5v.out.below HD25.out GX.out
    obtain ⟨q25_0, q25_1, q25_2, q25_3, q25_4, q25_5, q25_6, q25_7, q25_8⟩ := HKq.out.below HD25.out GQ.out
    clear hb25 x24_0 x24_1 x24_2 x24_3 x24_4 x24_5 x24_6 x24_7 x24_8 q24_0 q24_1 q24_2 q24_3 q24_4 q24_5 q24_6 q24_7 q24_8
    refine hK.out _ _ ?_ (fun hHeld2 => ?_)
    · go_keep
    clear hHeld hK K
    have hHeld := hHeld2
    clear hHeld2
    (try simp only [Act.put, List.setIfInBounds_toArray, List.set_cons_zero, List.set_cons_succ])
    refine wpAnyH_ready (rs := [18]) (by kernel_rfl) (by simp) ?_
    refine AllReadyH.cons rfl (fun K hK => ?_) AllReadyH.nil
    go_simp
    (try go_wp2_with fail)
    refine hK.out _ _ ?_ (fun hHeld2 => ?_)
    · go_keep
    clear hHeld hK K
    have hHeld := hHeld2
    clear hHeld2
    (try simp only [Act.put, List.setIfInBounds_toArray, List.set_cons_zero, List.set_cons_succ])
    refine takeD (i := 19) (d := 101) (v := ?_) rfl rfl (by kernel_rfl) (by kernel_rfl) (by kernel_rfl) (fun _ _ _ h => h) (Or.inl ⟨by rfl, ?_⟩) (by assumption) ?_
    rotate_left
    · intro w hSw
      (try dsimp only at hSw)
      go_simp
      (try with_reducible rfl)
    (try simp only [Act.put, List.setIfInBounds_toArray, List.set_cons_zero, List.set_cons_succ])
    refine takeD (i := 20) (d := 102) (v := ?_) rfl rfl (by kernel_rfl) (by kernel_rfl) (by kernel_rfl) (fun _ _ _ h => h) (Or.inl ⟨by rfl, ?_⟩) (by assumption) ?_
    rotate_left
    · intro w hSw
      (try dsimp only at hSw)
      go_simp
      (try with_reducible rfl)
    (try simp only [Act.put, List.setIfInBounds_toArray, List.set_cons_zero, List.set_cons_succ])
    refine wpAnyH_ready (rs := [21]) (by kernel_rfl) (by simp) ?_
    refine AllReadyH.cons rfl (fun K hK => ?_) AllReadyH.nil
    go_simp
    (try go_wp2_with fail)
    refine hK.out _ _ ?_ (fun hHeld2 => ?_)
    · go_keep
    clear hHeld hK K
    have hHeld := hHeld2
    clear hHeld2
    (try simp only [Act.put, List.setIfInBounds_toArray, List.set_cons_zero, List.set_cons_succ])
    refine takeD (i := 24) (d := 106) (v := ?_) rfl rfl (by kernel_rfl) (by kernel_rfl) (by kernel_rfl) (fun _ _ _ h => h) (Or.inl ⟨by rfl, ?_⟩) (by assumption) ?_
    rotate_left
    · intro w hSw
      (try dsimp only at hSw)
      go_simp
      (try with_reducible rfl)
    (try simp only [Act.put, List.setIfInBounds_toArray, List.set_cons_zero, List.set_cons_succ])
    refine takeD (i := 25) (d := 107) (v := ?_) rfl rfl (by kernel_rfl) (by kernel_rfl) (by kernel_rfl) (fun _ _ _ h => h) (Or.inl ⟨by rfl, ?_⟩) (by assumption) ?_
    rotate_left
    · intro w hSw
      (try dsimp only at hSw)
      go_simp
      (try with_reducible rfl)
    (try simp only [Act.put, List.setIfInBounds_toArray, List.set_cons_zero, List.set_cons_succ])
    refine takeD (i := 26) (d := 4) (v := ?_) rfl rfl (by kernel_rfl) (by kernel_rfl) (by kernel_rfl) (fun _ _ _ h => h) (Or.inl ⟨by rfl, ?_⟩) (by assumption) ?_
    rotate_left
    · intro w hSw
      (try dsimp only at hSw)
      go_simp
      (try with_reducible rfl)
    (try simp only [Act.put, List.setIfInBounds_toArray, List.set_cons_zero, List.set_cons_succ])
    refine wpAnyH_done (by kernel_rfl) ?_ _
    clear hHeld
    go_wp2_with fail
    go_ret
    exact ⟨rfl, HBV5.out.trans (HD25.out.mono HBV5.out.size)⟩

  · have H1 := Lib.hid (show ∀ w, Calls Try.prog 14 #[.agg #[.int .i64 1, .int .i64 4, .bool s, .bool c, .pointer none, .int .i64 0, .int .i64 0, .slice none 0 0, .pointer none], .agg #[.int .i64 1, .int .i64 m, .bool t, .bool d, .pointer none, .int .i64 0, .int .i64 0, .slice none 0 0, .pointer none]] w (AggIs k u v w) from C1)
    have H2 := Lib.hid (show ∀ w, Calls Try.prog 16 #[.agg #[.int .i64 1, .int .i64 4, .bool s, .bool c, .pointer none, .int .i64 0, .int .i64 0, .slice none 0 0, .pointer none], .agg #[.int .i64 1, .int .i64 m, .bool t, .bool d, .pointer none, .int .i64 0, .int .i64 0, .slice none 0 0, .pointer none]] w (AggIs k u v w) from C2)
    have H3 := Lib.hid (show ∀ w, Calls Try.prog 14 #[.agg #[.int .i64 1, .int .i64 m, .bool t, .bool d, .pointer none, .int .i64 0, .int .i64 0, .slice none 0 0, .pointer none], .agg #[.int .i64 1, .int .i64 4, .bool s, .bool c, .pointer none, .int .i64 0, .int .i64 0, .slice none 0 0, .pointer none]] w (AggIs k u v w) from C3)
    have HP := Lib.hid (show ∀ w, Calls Try.prog 15 #[.agg #[.int .i64 1, .int .i64 4, .bool s, .bool c, .pointer none, .int .i64 0, .int .i64 0, .slice none 0 0, .pointer none]] w (AggIs 4 s c w) from promote_int 4 s c)
    have HS := Lib.hid (show ∀ w, Calls Try.prog 12 #[.agg #[.int .i64 1, .int .i64 k, .bool u, .bool v, .pointer none, .int .i64 0, .int .i64 0, .slice none 0 0, .pointer none], .agg #[.int .i64 1, .int .i64 k, .bool u, .bool v, .pointer none, .int .i64 0, .int .i64 0, .slice none 0 0, .pointer none]] w (BoolIs true w) from same_true k u v)
    have HSX := Lib.hid (show ∀ w, Calls Try.prog 12 #[.agg #[.int .i64 1, .int .i64 4, .bool s, .bool c, .pointer none, .int .i64 0, .int .i64 0, .slice none 0 0, .pointer none], .agg #[.int .i64 1, .int .i64 4, .bool s, .bool c, .pointer none, .int .i64 0, .int .i64 0, .slice none 0 0, .pointer none]] w (BoolIs true w) from same_true 4 s c)
    have HQ := Lib.hid (show ∀ w, Calls Try.prog 17 #[.agg #[.int .i64 1, .int .i64 4, .bool s, .bool c, .pointer none, .int .i64 0, .int .i64 0, .slice none 0 0, .pointer none]] w (QIs 4 s c w) from ptr_is 4 s c)
    have HPQ := Lib.hid (show ∀ g w, g < w.heap.size → I9 w g 4 s c → Calls Try.prog 15 #[.agg #[.int .i64 2, .int .i64 8, .bool false, .bool false, .pointer (some ⟨g, 0, none⟩), .int .i64 0, .int .i64 0, .slice none 0 0, .pointer none]] w (QIs 4 s c w) from prq_is 4 s c)
    have HSQ := Lib.hid (show ∀ g h w, g < w.heap.size → h < w.heap.size → I9 w g 4 s c → I9 w h 4 s c → Calls Try.prog 12 #[.agg #[.int .i64 2, .int .i64 8, .bool false, .bool false, .pointer (some ⟨g, 0, none⟩), .int .i64 0, .int .i64 0, .slice none 0 0, .pointer none], .agg #[.int .i64 2, .int .i64 8, .bool false, .bool false, .pointer (some ⟨h, 0, none⟩), .int .i64 0, .int .i64 0, .slice none 0 0, .pointer none]] w (BoolIs true w) from sameq_is 4 s c)
    have HO := Lib.hid (show ∀ w, Calls Try.prog 18 #[.agg #[.int .i64 1, .int .i64 4, .bool s, .bool c, .pointer none, .int .i64 0, .int .i64 0, .slice none 0 0, .pointer none]] w (AggIs 4 s false w) from open_int 4 s c)
    have HE := Lib.hid (show ∀ w, Calls Try.prog 19 #[.agg #[.int .i64 1, .int .i64 4, .bool s, .bool c, .pointer none, .int .i64 0, .int .i64 0, .slice none 0 0, .pointer none]] w (AggIs 4 s true w) from secret_int 4 s c)
    have HEQ := Lib.hid (show ∀ g w, g < w.heap.size → I9 w g 4 s c → Calls Try.prog 19 #[.agg #[.int .i64 2, .int .i64 8, .bool false, .bool false, .pointer (some ⟨g, 0, none⟩), .int .i64 0, .int .i64 0, .slice none 0 0, .pointer none]] w (QIs 4 s c w) from seq_is 4 s c)
    clear C1 C2 C3
    have LX2 : Hid (w2.heap.size < V2.heap.size) := Lib.hid (by have := HZx3.out; have := HSV2.out; omega)
    have LY2 : Hid (w3.heap.size < V2.heap.size) := Lib.hid (by have := HSV2.out; omega)
    clear hx3 x2_0 x2_1 x2_2 x2_3 x2_4 x2_5 x2_6 x2_7 x2_8
    (with_reducible refine (H1.out _).mono ?_)
    rintro e w4 ⟨rfl, hb4⟩
    have HB4 := Lib.hid (HBV2.out.trans (hb4.mono HBV2.out.size))
    have HKx4 : Hid (I9 w4 w2.heap.size 4 s c) := Lib.hid (HKx_V2.out.below hb4 LX2.out)
    have HKy4 : Hid (I9 w4 w3.heap.size m t d) := Lib.hid (HKy.out.below hb4 LY2.out)
    have LX4 : Hid (w2.heap.size < w4.heap.size) := Lib.hid (by have := hb4.size; have := LX2.out; omega)
    have LY4 : Hid (w3.heap.size < w4.heap.size) := Lib.hid (by have := hb4.size; have := LY2.out; omega)
    clear hb4
    obtain ⟨x3_0, x3_1, x3_2, x3_3, x3_4, x3_5, x3_6, x3_7, x3_8⟩ := HKx4.out
    have hx4 : w2.heap.size < w4.heap.size := LX4.out
    go_wp2_with fail
    generalize hW : w4.alloc _ = V3
    have HKz : Hid (I9 V3 w4.heap.size k u v) := Lib.hid (by rw [← hW]; exact i9_alloc w4 k u v _)
    have HBV3 : Hid (Below w.heap.size w V3) := Lib.hid (by rw [← hW]; exact HB4.out.alloc HB4.out.size _)
    have HSV3 : Hid (V3.heap.size = w4.heap.size + 1) := Lib.hid (by rw [← hW]; simp)
    have HKx_V3 : Hid (I9 V3 w2.heap.size 4 s c) := Lib.hid (HKx4.out.below (lim := w4.heap.size) (by rw [← hW]; exact (Below.refl _ _).alloc (Nat.le_refl _) _) (LX4.out))
    have HKy_V3 : Hid (I9 V3 w3.heap.size m t d) := Lib.hid (HKy4.out.below (lim := w4.heap.size) (by rw [← hW]; exact (Below.refl _ _).alloc (Nat.le_refl _) _) (LY4.out))
    clear hW
    have LX3 : Hid (w2.heap.size < V3.heap.size) := Lib.hid (by have := LX4.out; have := HSV3.out; omega)
    have LY3 : Hid (w3.heap.size < V3.heap.size) := Lib.hid (by have := LY4.out; have := HSV3.out; omega)
    have LZ3 : Hid (w4.heap.size < V3.heap.size) := Lib.hid (by have := HSV3.out; omega)
    clear hx4 x3_0 x3_1 x3_2 x3_3 x3_4 x3_5 x3_6 x3_7 x3_8
    (with_reducible refine (HP.out _).mono ?_)
    rintro e w5 ⟨rfl, hb5⟩
    have HB5 := Lib.hid (HBV3.out.trans (hb5.mono HBV3.out.size))
    have HKx5 : Hid (I9 w5 w2.heap.size 4 s c) := Lib.hid (HKx_V3.out.below hb5 LX3.out)
    have HKy5 : Hid (I9 w5 w3.heap.size m t d) := Lib.hid (HKy_V3.out.below hb5 LY3.out)
    have HKz5 : Hid (I9 w5 w4.heap.size k u v) := Lib.hid (HKz.out.below hb5 LZ3.out)
    have LX5 : Hid (w2.heap.size < w5.heap.size) := Lib.hid (by have := hb5.size; have := LX3.out; omega)
    have LY5 : Hid (w3.heap.size < w5.heap.size) := Lib.hid (by have := hb5.size; have := LY3.out; omega)
    have LZ5 : Hid (w4.heap.size < w5.heap.size) := Lib.hid (by have := hb5.size; have := LZ3.out; omega)
    clear hb5
    go_wp2_with fail
    generalize hW : w5.alloc _ = V4
    have HKp : Hid (I9 V4 w5.heap.size 4 s c) := Lib.hid (by rw [← hW]; exact i9_alloc w5 4 s c _)
    have HBV4 : Hid (Below w.heap.size w V4) := Lib.hid (by rw [← hW]; exact HB5.out.alloc HB5.out.size _)
    have HSV4 : Hid (V4.heap.size = w5.heap.size + 1) := Lib.hid (by rw [← hW]; simp)
    have HKx_V4 : Hid (I9 V4 w2.heap.size 4 s c) := Lib.hid (HKx5.out.below (lim := w5.heap.size) (by rw [← hW]; exact (Below.refl _ _).alloc (Nat.le_refl _) _) (LX5.out))
    have HKy_V4 : Hid (I9 V4 w3.heap.size m t d) := Lib.hid (HKy5.out.below (lim := w5.heap.size) (by rw [← hW]; exact (Below.refl _ _).alloc (Nat.le_refl _) _) (LY5.out))
    have HKz_V4 : Hid (I9 V4 w4.heap.size k u v) := Lib.hid (HKz5.out.below (lim := w5.heap.size) (by rw [← hW]; exact (Below.refl _ _).alloc (Nat.le_refl _) _) (LZ5.out))
    clear hW
    have LX : Hid (w2.heap.size < V4.heap.size) := Lib.hid (by have := LX5.out; have := HSV4.out; omega)
    have LY : Hid (w3.heap.size < V4.heap.size) := Lib.hid (by have := LY5.out; have := HSV4.out; omega)
    have LZ : Hid (w4.heap.size < V4.heap.size) := Lib.hid (by have := LZ5.out; have := HSV4.out; omega)
    have LP : Hid (w5.heap.size < V4.heap.size) := Lib.hid (by have := HSV4.out; omega)
    obtain ⟨x0_0, x0_1, x0_2, x0_3, x0_4, x0_5, x0_6, x0_7, x0_8⟩ := HKx_V4.out
    obtain ⟨y0_0, y0_1, y0_2, y0_3, y0_4, y0_5, y0_6, y0_7, y0_8⟩ := HKy_V4.out
    obtain ⟨z0_0, z0_1, z0_2, z0_3, z0_4, z0_5, z0_6, z0_7, z0_8⟩ := HKz_V4.out
    obtain ⟨p0_0, p0_1, p0_2, p0_3, p0_4, p0_5, p0_6, p0_7, p0_8⟩ := HKp.out
    refine wp_region_held_drew (S := (fun w' => w'.cell? ⟨w2.heap.size, 0, none⟩ = some (.int .i64 1) ∧ w'.cell? ⟨w2.heap.size, 1, none⟩ = some (.int .i64 4) ∧ w'.cell? ⟨w2.heap.size, 2, none⟩ = some (.bool s) ∧ w'.cell? ⟨w2.heap.size, 3, none⟩ = some (.bool c) ∧ w'.cell? ⟨w2.heap.size, 4, none⟩ = some (.pointer none) ∧ w'.cell? ⟨w2.heap.size, 5, none⟩ = some (.int .i64 0) ∧ w'.cell? ⟨w2.heap.size, 6, none⟩ = some (.int .i64 0) ∧ w'.cell? ⟨w2.heap.size, 7, none⟩ = some (.slice none 0 0) ∧ w'.cell? ⟨w2.heap.size, 8, none⟩ = some (.pointer none) ∧ w'.cell? ⟨w3.heap.size, 0, none⟩ = some (.int .i64 1) ∧ w'.cell? ⟨w3.heap.size, 1, none⟩ = some (.int .i64 m) ∧ w'.cell? ⟨w3.heap.size, 2, none⟩ = some (.bool t) ∧ w'.cell? ⟨w3.heap.size, 3, none⟩ = some (.bool d) ∧ w'.cell? ⟨w3.heap.size, 4, none⟩ = some (.pointer none) ∧ w'.cell? ⟨w3.heap.size, 5, none⟩ = some (.int .i64 0) ∧ w'.cell? ⟨w3.heap.size, 6, none⟩ = some (.int .i64 0) ∧ w'.cell? ⟨w3.heap.size, 7, none⟩ = some (.slice none 0 0) ∧ w'.cell? ⟨w3.heap.size, 8, none⟩ = some (.pointer none) ∧ w'.cell? ⟨w4.heap.size, 0, none⟩ = some (.int .i64 1) ∧ w'.cell? ⟨w4.heap.size, 1, none⟩ = some (.int .i64 k) ∧ w'.cell? ⟨w4.heap.size, 2, none⟩ = some (.bool u) ∧ w'.cell? ⟨w4.heap.size, 3, none⟩ = some (.bool v) ∧ w'.cell? ⟨w4.heap.size, 4, none⟩ = some (.pointer none) ∧ w'.cell? ⟨w4.heap.size, 5, none⟩ = some (.int .i64 0) ∧ w'.cell? ⟨w4.heap.size, 6, none⟩ = some (.int .i64 0) ∧ w'.cell? ⟨w4.heap.size, 7, none⟩ = some (.slice none 0 0) ∧ w'.cell? ⟨w4.heap.size, 8, none⟩ = some (.pointer none) ∧ w'.cell? ⟨w5.heap.size, 0, none⟩ = some (.int .i64 1) ∧ w'.cell? ⟨w5.heap.size, 1, none⟩ = some (.int .i64 4) ∧ w'.cell? ⟨w5.heap.size, 2, none⟩ = some (.bool s) ∧ w'.cell? ⟨w5.heap.size, 3, none⟩ = some (.bool c) ∧ w'.cell? ⟨w5.heap.size, 4, none⟩ = some (.pointer none) ∧ w'.cell? ⟨w5.heap.size, 5, none⟩ = some (.int .i64 0) ∧ w'.cell? ⟨w5.heap.size, 6, none⟩ = some (.int .i64 0) ∧ w'.cell? ⟨w5.heap.size, 7, none⟩ = some (.slice none 0 0) ∧ w'.cell? ⟨w5.heap.size, 8, none⟩ = some (.pointer none))) (by kernel_rfl) (by go_keep) (fun hHeld => ?_)
    refine takeD (i := 0) (d := 33) (v := ?_) rfl rfl (by kernel_rfl) (by kernel_rfl) (by kernel_rfl) (fun _ _ _ h => h) (Or.inl ⟨by rfl, ?_⟩) (by assumption) ?_
    rotate_left
    · intro w hSw
      (try dsimp only at hSw)
      go_simp
      (try with_reducible rfl)
    (try simp only [Act.put, List.setIfInBounds_toArray, List.set_cons_zero, List.set_cons_succ])
    refine takeD (i := 1) (d := 34) (v := ?_) rfl rfl (by kernel_rfl) (by kernel_rfl) (by kernel_rfl) (fun _ _ _ h => h) (Or.inl ⟨by rfl, ?_⟩) (by assumption) ?_
    rotate_left
    · intro w hSw
      (try dsimp only at hSw)
      go_simp
      (try with_reducible rfl)
    (try simp only [Act.put, List.setIfInBounds_toArray, List.set_cons_zero, List.set_cons_succ])
    refine takeD (i := 2) (d := 35) (v := ?_) rfl rfl (by kernel_rfl) (by kernel_rfl) (by kernel_rfl) (fun _ _ _ h => h) (Or.inl ⟨by rfl, ?_⟩) (by assumption) ?_
    rotate_left
    · intro w hSw
      (try dsimp only at hSw)
      go_simp
      (try with_reducible rfl)
    (try simp only [Act.put, List.setIfInBounds_toArray, List.set_cons_zero, List.set_cons_succ])
    refine wpAnyH_ready (rs := [3]) (by kernel_rfl) (by simp) ?_
    refine AllReadyH.cons rfl (fun K hK => ?_) AllReadyH.nil
    go_simp
    go_at_call 16
    (with_reducible refine (H2.out _).mono ?_)
    rintro e u_1 ⟨rfl, hb1⟩
    have HC1 : Hid (Below V4.heap.size V4 u_1) := Lib.hid ((Below.refl V4.heap.size V4).drew.trans hb1)
    obtain ⟨x1_0, x1_1, x1_2, x1_3, x1_4, x1_5, x1_6, x1_7, x1_8⟩ := HKx_V4.out.below HC1.out LX.out
    obtain ⟨y1_0, y1_1, y1_2, y1_3, y1_4, y1_5, y1_6, y1_7, y1_8⟩ := HKy_V4.out.below HC1.out LY.out
    obtain ⟨z1_0, z1_1, z1_2, z1_3, z1_4, z1_5, z1_6, z1_7, z1_8⟩ := HKz_V4.out.below HC1.out LZ.out
    obtain ⟨p1_0, p1_1, p1_2, p1_3, p1_4, p1_5, p1_6, p1_7, p1_8⟩ := HKp.out.below HC1.out LP.out
    clear hb1 x0_0 x0_1 x0_2 x0_3 x0_4 x0_5 x0_6 x0_7 x0_8 y0_0 y0_1 y0_2 y0_3 y0_4 y0_5 y0_6 y0_7 y0_8 z0_0 z0_1 z0_2 z0_3 z0_4 z0_5 z0_6 z0_7 z0_8 p0_0 p0_1 p0_2 p0_3 p0_4 p0_5 p0_6 p0_7 p0_8
    refine hK.out _ _ ?_ (fun hHeld2 => ?_)
    · go_keep
    clear hHeld hK K
    have hHeld := hHeld2
    clear hHeld2
    (try simp only [Act.put, List.setIfInBounds_toArray, List.set_cons_zero, List.set_cons_succ])
    refine wpAnyH_ready (rs := [4]) (by kernel_rfl) (by simp) ?_
    refine AllReadyH.cons rfl (fun K hK => ?_) AllReadyH.nil
    go_simp
    go_at_call 12
    (with_reducible refine (HS.out _).mono ?_)
    rintro e u_2 ⟨rfl, hb2⟩
    have HC2 : Hid (Below V4.heap.size V4 u_2) := Lib.hid (HC1.out.trans (hb2.mono HC1.out.size))
    obtain ⟨x2_0, x2_1, x2_2, x2_3, x2_4, x2_5, x2_6, x2_7, x2_8⟩ := HKx_V4.out.below HC2.out LX.out
    obtain ⟨y2_0, y2_1, y2_2, y2_3, y2_4, y2_5, y2_6, y2_7, y2_8⟩ := HKy_V4.out.below HC2.out LY.out
    obtain ⟨z2_0, z2_1, z2_2, z2_3, z2_4, z2_5, z2_6, z2_7, z2_8⟩ := HKz_V4.out.below HC2.out LZ.out
    obtain ⟨p2_0, p2_1, p2_2, p2_3, p2_4, p2_5, p2_6, p2_7, p2_8⟩ := HKp.out.below HC2.out LP.out
    clear hb2 x1_0 x1_1 x1_2 x1_3 x1_4 x1_5 x1_6 x1_7 x1_8 y1_0 y1_1 y1_2 y1_3 y1_4 y1_5 y1_6 y1_7 y1_8 z1_0 z1_1 z1_2 z1_3 z1_4 z1_5 z1_6 z1_7 z1_8 p1_0 p1_1 p1_2 p1_3 p1_4 p1_5 p1_6 p1_7 p1_8
    refine hK.out _ _ ?_ (fun hHeld2 => ?_)
    · go_keep
    clear hHeld hK K
    have hHeld := hHeld2
    clear hHeld2
    (try simp only [Act.put, List.setIfInBounds_toArray, List.set_cons_zero, List.set_cons_succ])
    refine takeD (i := 5) (d := 38) (v := ?_) rfl rfl (by kernel_rfl) (by kernel_rfl) (by kernel_rfl) (fun _ _ _ h => h) (Or.inl ⟨by rfl, ?_⟩) (by assumption) ?_
    rotate_left
    · intro w hSw
      (try dsimp only at hSw)
      go_simp
      (try with_reducible rfl)
    (try simp only [Act.put, List.setIfInBounds_toArray, List.set_cons_zero, List.set_cons_succ])
    refine takeD (i := 6) (d := 39) (v := ?_) rfl rfl (by kernel_rfl) (by kernel_rfl) (by kernel_rfl) (fun _ _ _ h => h) (Or.inl ⟨by rfl, ?_⟩) (by assumption) ?_
    rotate_left
    · intro w hSw
      (try dsimp only at hSw)
      go_simp
      (try with_reducible rfl)
    (try simp only [Act.put, List.setIfInBounds_toArray, List.set_cons_zero, List.set_cons_succ])
    refine takeD (i := 7) (d := 40) (v := ?_) rfl rfl (by kernel_rfl) (by kernel_rfl) (by kernel_rfl) (fun _ _ _ h => h) (Or.inl ⟨by rfl, ?_⟩) (by assumption) ?_
    rotate_left
    · intro w hSw
      (try dsimp only at hSw)
      go_simp
      (try with_reducible rfl)
    (try simp only [Act.put, List.setIfInBounds_toArray, List.set_cons_zero, List.set_cons_succ])
    refine takeD (i := 8) (d := 41) (v := ?_) rfl rfl (by kernel_rfl) (by kernel_rfl) (by kernel_rfl) (fun _ _ _ h => h) (Or.inl ⟨by rfl, ?_⟩) (by assumption) ?_
    rotate_left
    · intro w hSw
      (try dsimp only at hSw)
      go_simp
      (try with_reducible rfl)
    (try simp only [Act.put, List.setIfInBounds_toArray, List.set_cons_zero, List.set_cons_succ])
    refine takeD (i := 9) (d := 42) (v := ?_) rfl rfl (by kernel_rfl) (by kernel_rfl) (by kernel_rfl) (fun _ _ _ h => h) (Or.inl ⟨by rfl, ?_⟩) (by assumption) ?_
    rotate_left
    · intro w hSw
      (try dsimp only at hSw)
      go_simp
      (try with_reducible rfl)
    (try simp only [Act.put, List.setIfInBounds_toArray, List.set_cons_zero, List.set_cons_succ])
    refine wpAnyH_ready (rs := [10]) (by kernel_rfl) (by simp) ?_
    refine AllReadyH.cons rfl (fun K hK => ?_) AllReadyH.nil
    go_simp
    go_at_call 14
    (with_reducible refine (H3.out _).mono ?_)
    rintro e u_3 ⟨rfl, hb3⟩
    have HC3 : Hid (Below V4.heap.size V4 u_3) := Lib.hid (HC2.out.trans (hb3.mono HC2.out.size))
    obtain ⟨x3_0, x3_1, x3_2, x3_3, x3_4, x3_5, x3_6, x3_7, x3_8⟩ := HKx_V4.out.below HC3.out LX.out
    obtain ⟨y3_0, y3_1, y3_2, y3_3, y3_4, y3_5, y3_6, y3_7, y3_8⟩ := HKy_V4.out.below HC3.out LY.out
    obtain ⟨z3_0, z3_1, z3_2, z3_3, z3_4, z3_5, z3_6, z3_7, z3_8⟩ := HKz_V4.out.below HC3.out LZ.out
    obtain ⟨p3_0, p3_1, p3_2, p3_3, p3_4, p3_5, p3_6, p3_7, p3_8⟩ := HKp.out.below HC3.out LP.out
    clear hb3 x2_0 x2_1 x2_2 x2_3 x2_4 x2_5 x2_6 x2_7 x2_8 y2_0 y2_1 y2_2 y2_3 y2_4 y2_5 y2_6 y2_7 y2_8 z2_0 z2_1 z2_2 z2_3 z2_4 z2_5 z2_6 z2_7 z2_8 p2_0 p2_1 p2_2 p2_3 p2_4 p2_5 p2_6 p2_7 p2_8
    refine hK.out _ _ ?_ (fun hHeld2 => ?_)
    · go_keep
    clear hHeld hK K
    have hHeld := hHeld2
    clear hHeld2
    (try simp only [Act.put, List.setIfInBounds_toArray, List.set_cons_zero, List.set_cons_succ])
    refine wpAnyH_ready (rs := [11]) (by kernel_rfl) (by simp) ?_
    refine AllReadyH.cons rfl (fun K hK => ?_) AllReadyH.nil
    go_simp
    go_at_call 12
    (with_reducible refine (HS.out _).mono ?_)
    rintro e u_4 ⟨rfl, hb4⟩
    have HC4 : Hid (Below V4.heap.size V4 u_4) := Lib.hid (HC3.out.trans (hb4.mono HC3.out.size))
    obtain ⟨x4_0, x4_1, x4_2, x4_3, x4_4, x4_5, x4_6, x4_7, x4_8⟩ := HKx_V4.out.below HC4.out LX.out
    obtain ⟨y4_0, y4_1, y4_2, y4_3, y4_4, y4_5, y4_6, y4_7, y4_8⟩ := HKy_V4.out.below HC4.out LY.out
    obtain ⟨z4_0, z4_1, z4_2, z4_3, z4_4, z4_5, z4_6, z4_7, z4_8⟩ := HKz_V4.out.below HC4.out LZ.out
    obtain ⟨p4_0, p4_1, p4_2, p4_3, p4_4, p4_5, p4_6, p4_7, p4_8⟩ := HKp.out.below HC4.out LP.out
    clear hb4 x3_0 x3_1 x3_2 x3_3 x3_4 x3_5 x3_6 x3_7 x3_8 y3_0 y3_1 y3_2 y3_3 y3_4 y3_5 y3_6 y3_7 y3_8 z3_0 z3_1 z3_2 z3_3 z3_4 z3_5 z3_6 z3_7 z3_8 p3_0 p3_1 p3_2 p3_3 p3_4 p3_5 p3_6 p3_7 p3_8
    refine hK.out _ _ ?_ (fun hHeld2 => ?_)
    · go_keep
    clear hHeld hK K
    have hHeld := hHeld2
    clear hHeld2
    (try simp only [Act.put, List.setIfInBounds_toArray, List.set_cons_zero, List.set_cons_succ])
    refine takeD (i := 12) (d := 45) (v := ?_) rfl rfl (by kernel_rfl) (by kernel_rfl) (by kernel_rfl) (fun _ _ _ h => h) (Or.inl ⟨by rfl, ?_⟩) (by assumption) ?_
    rotate_left
    · intro w hSw
      (try dsimp only at hSw)
      go_simp
      (try with_reducible rfl)
    (try simp only [Act.put, List.setIfInBounds_toArray, List.set_cons_zero, List.set_cons_succ])
    refine takeD (i := 13) (d := 46) (v := ?_) rfl rfl (by kernel_rfl) (by kernel_rfl) (by kernel_rfl) (fun _ _ _ h => h) (Or.inl ⟨by rfl, ?_⟩) (by assumption) ?_
    rotate_left
    · intro w hSw
      (try dsimp only at hSw)
      go_simp
      (try with_reducible rfl)
    (try simp only [Act.put, List.setIfInBounds_toArray, List.set_cons_zero, List.set_cons_succ])
    refine takeD (i := 14) (d := 47) (v := ?_) rfl rfl (by kernel_rfl) (by kernel_rfl) (by kernel_rfl) (fun _ _ _ h => h) (Or.inl ⟨by rfl, ?_⟩) (by assumption) ?_
    rotate_left
    · intro w hSw
      (try dsimp only at hSw)
      go_simp
      (try with_reducible rfl)
    (try simp only [Act.put, List.setIfInBounds_toArray, List.set_cons_zero, List.set_cons_succ])
    refine takeD (i := 15) (d := 48) (v := ?_) rfl rfl (by kernel_rfl) (by kernel_rfl) (by kernel_rfl) (fun _ _ _ h => h) (Or.inl ⟨by rfl, ?_⟩) (by assumption) ?_
    rotate_left
    · intro w hSw
      (try dsimp only at hSw)
      go_simp
      (try with_reducible rfl)
    (try simp only [Act.put, List.setIfInBounds_toArray, List.set_cons_zero, List.set_cons_succ])
    refine takeD (i := 16) (d := 49) (v := ?_) rfl rfl (by kernel_rfl) (by kernel_rfl) (by kernel_rfl) (fun _ _ _ h => h) (Or.inl ⟨by rfl, ?_⟩) (by assumption) ?_
    rotate_left
    · intro w hSw
      (try dsimp only at hSw)
      go_simp
      (try with_reducible rfl)
    (try simp only [Act.put, List.setIfInBounds_toArray, List.set_cons_zero, List.set_cons_succ])
    refine takeD (i := 17) (d := 50) (v := ?_) rfl rfl (by kernel_rfl) (by kernel_rfl) (by kernel_rfl) (fun _ _ _ h => h) (Or.inl ⟨by rfl, ?_⟩) (by assumption) ?_
    rotate_left
    · intro w hSw
      (try dsimp only at hSw)
      go_simp
      (try with_reducible rfl)
    (try simp only [Act.put, List.setIfInBounds_toArray, List.set_cons_zero, List.set_cons_succ])
    refine takeD (i := 18) (d := 51) (v := ?_) rfl rfl (by kernel_rfl) (by kernel_rfl) (by kernel_rfl) (fun _ _ _ h => h) (Or.inl ⟨by rfl, ?_⟩) (by assumption) ?_
    rotate_left
    · intro w hSw
      (try dsimp only at hSw)
      go_simp
      (try with_reducible rfl)
    (try simp only [Act.put, List.setIfInBounds_toArray, List.set_cons_zero, List.set_cons_succ])
    refine takeD (i := 19) (d := 52) (v := ?_) rfl rfl (by kernel_rfl) (by kernel_rfl) (by kernel_rfl) (fun _ _ _ h => h) (Or.inl ⟨by rfl, ?_⟩) (by assumption) ?_
    rotate_left
    · intro w hSw
      (try dsimp only at hSw)
      go_simp
      (try with_reducible rfl)
    (try simp only [Act.put, List.setIfInBounds_toArray, List.set_cons_zero, List.set_cons_succ])
    refine takeD (i := 20) (d := 53) (v := ?_) rfl rfl (by kernel_rfl) (by kernel_rfl) (by kernel_rfl) (fun _ _ _ h => h) (Or.inl ⟨by rfl, ?_⟩) (by assumption) ?_
    rotate_left
    · intro w hSw
      (try dsimp only at hSw)
      go_simp
      (try with_reducible rfl)
    (try simp only [Act.put, List.setIfInBounds_toArray, List.set_cons_zero, List.set_cons_succ])
    refine takeD (i := 21) (d := 54) (v := ?_) rfl rfl (by kernel_rfl) (by kernel_rfl) (by kernel_rfl) (fun _ _ _ h => h) (Or.inl ⟨by rfl, ?_⟩) (by assumption) ?_
    rotate_left
    · intro w hSw
      (try dsimp only at hSw)
      go_simp
      (try with_reducible rfl)
    (try simp only [Act.put, List.setIfInBounds_toArray, List.set_cons_zero, List.set_cons_succ])
    refine takeD (i := 22) (d := 55) (v := ?_) rfl rfl (by kernel_rfl) (by kernel_rfl) (by kernel_rfl) (fun _ _ _ h => h) (Or.inl ⟨by rfl, ?_⟩) (by assumption) ?_
    rotate_left
    · intro w hSw
      (try dsimp only at hSw)
      go_simp
      (try with_reducible rfl)
    (try simp only [Act.put, List.setIfInBounds_toArray, List.set_cons_zero, List.set_cons_succ])
    refine takeD (i := 23) (d := 56) (v := ?_) rfl rfl (by kernel_rfl) (by kernel_rfl) (by kernel_rfl) (fun _ _ _ h => h) (Or.inl ⟨by rfl, ?_⟩) (by assumption) ?_
    rotate_left
    · intro w hSw
      (try dsimp only at hSw)
      go_simp
      (try with_reducible rfl)
    (try simp only [Act.put, List.setIfInBounds_toArray, List.set_cons_zero, List.set_cons_succ])
    refine takeD (i := 24) (d := 57) (v := ?_) rfl rfl (by kernel_rfl) (by kernel_rfl) (by kernel_rfl) (fun _ _ _ h => h) (Or.inl ⟨by rfl, ?_⟩) (by assumption) ?_
    rotate_left
    · intro w hSw
      (try dsimp only at hSw)
      go_simp
      (try with_reducible rfl)
    (try simp only [Act.put, List.setIfInBounds_toArray, List.set_cons_zero, List.set_cons_succ])
    refine takeD (i := 25) (d := 58) (v := ?_) rfl rfl (by kernel_rfl) (by kernel_rfl) (by kernel_rfl) (fun _ _ _ h => h) (Or.inl ⟨by rfl, ?_⟩) (by assumption) ?_
    rotate_left
    · intro w hSw
      (try dsimp only at hSw)
      go_simp
      (try with_reducible rfl)
    (try simp only [Act.put, List.setIfInBounds_toArray, List.set_cons_zero, List.set_cons_succ])
    refine takeD (i := 26) (d := 59) (v := ?_) rfl rfl (by kernel_rfl) (by kernel_rfl) (by kernel_rfl) (fun _ _ _ h => h) (Or.inl ⟨by rfl, ?_⟩) (by assumption) ?_
    rotate_left
    · intro w hSw
      (try dsimp only at hSw)
      go_simp
      (try with_reducible rfl)
    (try simp only [Act.put, List.setIfInBounds_toArray, List.set_cons_zero, List.set_cons_succ])
    refine takeD (i := 27) (d := 60) (v := ?_) rfl rfl (by kernel_rfl) (by kernel_rfl) (by kernel_rfl) (fun _ _ _ h => h) (Or.inl ⟨by rfl, ?_⟩) (by assumption) ?_
    rotate_left
    · intro w hSw
      (try dsimp only at hSw)
      go_simp
      (try with_reducible rfl)
    (try simp only [Act.put, List.setIfInBounds_toArray, List.set_cons_zero, List.set_cons_succ])
    refine takeD (i := 28) (d := 61) (v := ?_) rfl rfl (by kernel_rfl) (by kernel_rfl) (by kernel_rfl) (fun _ _ _ h => h) (Or.inl ⟨by rfl, ?_⟩) (by assumption) ?_
    rotate_left
    · intro w hSw
      (try dsimp only at hSw)
      go_simp
      (try with_reducible rfl)
    (try simp only [Act.put, List.setIfInBounds_toArray, List.set_cons_zero, List.set_cons_succ])
    refine takeD (i := 29) (d := 62) (v := ?_) rfl rfl (by kernel_rfl) (by kernel_rfl) (by kernel_rfl) (fun _ _ _ h => h) (Or.inl ⟨by rfl, ?_⟩) (by assumption) ?_
    rotate_left
    · intro w hSw
      (try dsimp only at hSw)
      go_simp
      (try with_reducible rfl)
    (try simp only [Act.put, List.setIfInBounds_toArray, List.set_cons_zero, List.set_cons_succ])
    refine takeD (i := 30) (d := 63) (v := ?_) rfl rfl (by kernel_rfl) (by kernel_rfl) (by kernel_rfl) (fun _ _ _ h => h) (Or.inl ⟨by rfl, ?_⟩) (by assumption) ?_
    rotate_left
    · intro w hSw
      (try dsimp only at hSw)
      go_simp
      (try with_reducible rfl)
    (try simp only [Act.put, List.setIfInBounds_toArray, List.set_cons_zero, List.set_cons_succ])
    refine takeD (i := 31) (d := 64) (v := ?_) rfl rfl (by kernel_rfl) (by kernel_rfl) (by kernel_rfl) (fun _ _ _ h => h) (Or.inl ⟨by rfl, ?_⟩) (by assumption) ?_
    rotate_left
    · intro w hSw
      (try dsimp only at hSw)
      go_simp
      (try with_reducible rfl)
    (try simp only [Act.put, List.setIfInBounds_toArray, List.set_cons_zero, List.set_cons_succ])
    refine takeD (i := 32) (d := 65) (v := ?_) rfl rfl (by kernel_rfl) (by kernel_rfl) (by kernel_rfl) (fun _ _ _ h => h) (Or.inl ⟨by rfl, ?_⟩) (by assumption) ?_
    rotate_left
    · intro w hSw
      (try dsimp only at hSw)
      go_simp
      (try with_reducible rfl)
    (try simp only [Act.put, List.setIfInBounds_toArray, List.set_cons_zero, List.set_cons_succ])
    refine wpAnyH_ready (rs := [33]) (by kernel_rfl) (by simp) ?_
    refine AllReadyH.cons rfl (fun K hK => ?_) AllReadyH.nil
    go_simp
    go_at_call 12
    (with_reducible refine (HSX.out _).mono ?_)
    rintro e u_5 ⟨rfl, hb5⟩
    have HC5 : Hid (Below V4.heap.size V4 u_5) := Lib.hid (HC4.out.trans (hb5.mono HC4.out.size))
    obtain ⟨x5_0, x5_1, x5_2, x5_3, x5_4, x5_5, x5_6, x5_7, x5_8⟩ := HKx_V4.out.below HC5.out LX.out
    obtain ⟨y5_0, y5_1, y5_2, y5_3, y5_4, y5_5, y5_6, y5_7, y5_8⟩ := HKy_V4.out.below HC5.out LY.out
    obtain ⟨z5_0, z5_1, z5_2, z5_3, z5_4, z5_5, z5_6, z5_7, z5_8⟩ := HKz_V4.out.below HC5.out LZ.out
    obtain ⟨p5_0, p5_1, p5_2, p5_3, p5_4, p5_5, p5_6, p5_7, p5_8⟩ := HKp.out.below HC5.out LP.out
    clear hb5 x4_0 x4_1 x4_2 x4_3 x4_4 x4_5 x4_6 x4_7 x4_8 y4_0 y4_1 y4_2 y4_3 y4_4 y4_5 y4_6 y4_7 y4_8 z4_0 z4_1 z4_2 z4_3 z4_4 z4_5 z4_6 z4_7 z4_8 p4_0 p4_1 p4_2 p4_3 p4_4 p4_5 p4_6 p4_7 p4_8
    refine hK.out _ _ ?_ (fun hHeld2 => ?_)
    · go_keep
    clear hHeld hK K
    have hHeld := hHeld2
    clear hHeld2
    (try simp only [Act.put, List.setIfInBounds_toArray, List.set_cons_zero, List.set_cons_succ])
    refine takeD (i := 34) (d := 67) (v := ?_) rfl rfl (by kernel_rfl) (by kernel_rfl) (by kernel_rfl) (fun _ _ _ h => h) (Or.inl ⟨by rfl, ?_⟩) (by assumption) ?_
    rotate_left
    · intro w hSw
      (try dsimp only at hSw)
      go_simp
      (try with_reducible rfl)
    (try simp only [Act.put, List.setIfInBounds_toArray, List.set_cons_zero, List.set_cons_succ])
    refine takeD (i := 35) (d := 68) (v := ?_) rfl rfl (by kernel_rfl) (by kernel_rfl) (by kernel_rfl) (fun _ _ _ h => h) (Or.inl ⟨by rfl, ?_⟩) (by assumption) ?_
    rotate_left
    · intro w hSw
      (try dsimp only at hSw)
      go_simp
      (try with_reducible rfl)
    (try simp only [Act.put, List.setIfInBounds_toArray, List.set_cons_zero, List.set_cons_succ])
    refine takeD (i := 36) (d := 69) (v := ?_) rfl rfl (by kernel_rfl) (by kernel_rfl) (by kernel_rfl) (fun _ _ _ h => h) (Or.inl ⟨by rfl, ?_⟩) (by assumption) ?_
    rotate_left
    · intro w hSw
      (try dsimp only at hSw)
      go_simp
      (try with_reducible rfl)
    (try simp only [Act.put, List.setIfInBounds_toArray, List.set_cons_zero, List.set_cons_succ])
    refine takeD (i := 37) (d := 70) (v := ?_) rfl rfl (by kernel_rfl) (by kernel_rfl) (by kernel_rfl) (fun _ _ _ h => h) (Or.inl ⟨by rfl, ?_⟩) (by assumption) ?_
    rotate_left
    · intro w hSw
      (try dsimp only at hSw)
      go_simp
      (try with_reducible rfl)
    (try simp only [Act.put, List.setIfInBounds_toArray, List.set_cons_zero, List.set_cons_succ])
    refine takeD (i := 38) (d := 71) (v := ?_) rfl rfl (by kernel_rfl) (by kernel_rfl) (by kernel_rfl) (fun _ _ _ h => h) (Or.inl ⟨by rfl, ?_⟩) (by assumption) ?_
    rotate_left
    · intro w hSw
      (try dsimp only at hSw)
      go_simp
      (try with_reducible rfl)
    (try simp only [Act.put, List.setIfInBounds_toArray, List.set_cons_zero, List.set_cons_succ])
    refine takeD (i := 39) (d := 72) (v := ?_) rfl rfl (by kernel_rfl) (by kernel_rfl) (by kernel_rfl) (fun _ _ _ h => h) (Or.inl ⟨by rfl, ?_⟩) (by assumption) ?_
    rotate_left
    · intro w hSw
      (try dsimp only at hSw)
      go_simp
      (try with_reducible rfl)
    (try simp only [Act.put, List.setIfInBounds_toArray, List.set_cons_zero, List.set_cons_succ])
    refine takeD (i := 40) (d := 73) (v := ?_) rfl rfl (by kernel_rfl) (by kernel_rfl) (by kernel_rfl) (fun _ _ _ h => h) (Or.inl ⟨by rfl, ?_⟩) (by assumption) ?_
    rotate_left
    · intro w hSw
      (try dsimp only at hSw)
      go_simp
      (try with_reducible rfl)
    (try simp only [Act.put, List.setIfInBounds_toArray, List.set_cons_zero, List.set_cons_succ])
    refine takeD (i := 41) (d := 74) (v := ?_) rfl rfl (by kernel_rfl) (by kernel_rfl) (by kernel_rfl) (fun _ _ _ h => h) (Or.inl ⟨by rfl, ?_⟩) (by assumption) ?_
    rotate_left
    · intro w hSw
      (try dsimp only at hSw)
      go_simp
      (try with_reducible rfl)
    (try simp only [Act.put, List.setIfInBounds_toArray, List.set_cons_zero, List.set_cons_succ])
    refine takeD (i := 42) (d := 75) (v := undef) rfl rfl (by kernel_rfl) (by kernel_rfl) (by kernel_rfl) (fun _ _ _ h => h) (Or.inr ⟨by rfl, rfl⟩) (by assumption) ?_
    (try simp only [Act.put, List.setIfInBounds_toArray, List.set_cons_zero, List.set_cons_succ])
    refine takeD (i := 43) (d := 76) (v := undef) rfl rfl (by kernel_rfl) (by kernel_rfl) (by kernel_rfl) (fun _ _ _ h => h) (Or.inr ⟨by rfl, rfl⟩) (by assumption) ?_
    (try simp only [Act.put, List.setIfInBounds_toArray, List.set_cons_zero, List.set_cons_succ])
    refine takeD (i := 44) (d := 77) (v := undef) rfl rfl (by kernel_rfl) (by kernel_rfl) (by kernel_rfl) (fun _ _ _ h => h) (Or.inr ⟨by rfl, rfl⟩) (by assumption) ?_
    (try simp only [Act.put, List.setIfInBounds_toArray, List.set_cons_zero, List.set_cons_succ])
    refine takeD (i := 45) (d := 78) (v := ?_) rfl rfl (by kernel_rfl) (by kernel_rfl) (by kernel_rfl) (fun _ _ _ h => h) (Or.inl ⟨by rfl, ?_⟩) (by assumption) ?_
    rotate_left
    · intro w hSw
      (try dsimp only at hSw)
      go_simp
      (try with_reducible rfl)
    (try simp only [Act.put, List.setIfInBounds_toArray, List.set_cons_zero, List.set_cons_succ])
    refine takeD (i := 46) (d := 79) (v := ?_) rfl rfl (by kernel_rfl) (by kernel_rfl) (by kernel_rfl) (fun _ _ _ h => h) (Or.inl ⟨by rfl, ?_⟩) (by assumption) ?_
    rotate_left
    · intro w hSw
      (try dsimp only at hSw)
      go_simp
      (try with_reducible rfl)
    (try simp only [Act.put, List.setIfInBounds_toArray, List.set_cons_zero, List.set_cons_succ])
    refine wpAnyH_done (by kernel_rfl) ?_ _
    clear hHeld
    have HBU := Lib.hid (HBV4.out.trans (HC5.out.mono HBV4.out.size))
    have HLU : Hid (w2.heap.size < u_5.heap.size) := Lib.hid (by have := HC5.out.size; have := LX.out; omega)
    have HKU : Hid (I9 u_5 w2.heap.size 4 s c) := Lib.hid (HKx_V4.out.below HC5.out LX.out)
    clear y5_0 y5_1 y5_2 y5_3 y5_4 y5_5 y5_6 y5_7 y5_8 z5_0 z5_1 z5_2 z5_3 z5_4 z5_5 z5_6 z5_7 z5_8 p5_0 p5_1 p5_2 p5_3 p5_4 p5_5 p5_6 p5_7 p5_8
    go_wp2_with fail
    (with_reducible refine (HQ.out _).mono ?_)
    rintro e w6 ⟨g, rfl, hg, hgi, hb6⟩
    have HB6 := Lib.hid (HBU.out.trans (hb6.mono HBU.out.size))
    have HK6 : Hid (I9 w6 w2.heap.size 4 s c) := Lib.hid (HKU.out.below hb6 HLU.out)
    have HL6 : Hid (w2.heap.size < w6.heap.size) := Lib.hid (by have := hb6.size; have := HLU.out; omega)
    have HG6 := Lib.hid hg
    have HI6 := Lib.hid hgi
    clear hb6 hg hgi x5_0 x5_1 x5_2 x5_3 x5_4 x5_5 x5_6 x5_7 x5_8
    go_wp2_with fail
    generalize hW : w6.alloc _ = V5
    have HKq : Hid (Q9 V5 w6.heap.size g) := Lib.hid (by rw [← hW]; exact q9_alloc w6 g _)
    have HBV5 : Hid (Below w.heap.size w V5) := Lib.hid (by rw [← hW]; exact HB6.out.alloc HB6.out.size _)
    have HSV5 : Hid (V5.heap.size = w6.heap.size + 1) := Lib.hid (by rw [← hW]; simp)
    have HKx5v : Hid (I9 V5 w2.heap.size 4 s c) := Lib.hid (HK6.out.below (lim := w6.heap.size) (by rw [← hW]; exact (Below.refl _ _).alloc (Nat.le_refl _) _) HL6.out)
    have HIg : Hid (I9 V5 g 4 s c) := Lib.hid (HI6.out.below (lim := w6.heap.size) (by rw [← hW]; exact (Below.refl _ _).alloc (Nat.le_refl _) _) HG6.out)
    clear hW
    have GX : Hid (w2.heap.size < V5.heap.size) := Lib.hid (by have := HL6.out; have := HSV5.out; omega)
    have GQ : Hid (w6.heap.size < V5.heap.size) := Lib.hid (by have := HSV5.out; omega)
    have GG : Hid (g < V5.heap.size) := Lib.hid (by have := HG6.out; have := HSV5.out; omega)
    obtain ⟨x20_0, x20_1, x20_2, x20_3, x20_4, x20_5, x20_6, x20_7, x20_8⟩ := HKx5v.out
    obtain ⟨q20_0, q20_1, q20_2, q20_3, q20_4, q20_5, q20_6, q20_7, q20_8⟩ := HKq.out
    refine wp_region_held_drew (S := (fun w' => w'.cell? ⟨w2.heap.size, 0, none⟩ = some (.int .i64 1) ∧ w'.cell? ⟨w2.heap.size, 1, none⟩ = some (.int .i64 4) ∧ w'.cell? ⟨w2.heap.size, 2, none⟩ = some (.bool s) ∧ w'.cell? ⟨w2.heap.size, 3, none⟩ = some (.bool c) ∧ w'.cell? ⟨w2.heap.size, 4, none⟩ = some (.pointer none) ∧ w'.cell? ⟨w2.heap.size, 5, none⟩ = some (.int .i64 0) ∧ w'.cell? ⟨w2.heap.size, 6, none⟩ = some (.int .i64 0) ∧ w'.cell? ⟨w2.heap.size, 7, none⟩ = some (.slice none 0 0) ∧ w'.cell? ⟨w2.heap.size, 8, none⟩ = some (.pointer none) ∧ w'.cell? ⟨w6.heap.size, 0, none⟩ = some (.int .i64 2) ∧ w'.cell? ⟨w6.heap.size, 1, none⟩ = some (.int .i64 8) ∧ w'.cell? ⟨w6.heap.size, 2, none⟩ = some (.bool false) ∧ w'.cell? ⟨w6.heap.size, 3, none⟩ = some (.bool false) ∧ w'.cell? ⟨w6.heap.size, 4, none⟩ = some (.pointer (some ⟨g, 0, none⟩)) ∧ w'.cell? ⟨w6.heap.size, 5, none⟩ = some (.int .i64 0) ∧ w'.cell? ⟨w6.heap.size, 6, none⟩ = some (.int .i64 0) ∧ w'.cell? ⟨w6.heap.size, 7, none⟩ = some (.slice none 0 0) ∧ w'.cell? ⟨w6.heap.size, 8, none⟩ = some (.pointer none))) (by kernel_rfl) (by go_keep) (fun hHeld => ?_)
    refine takeD (i := 0) (d := 82) (v := ?_) rfl rfl (by kernel_rfl) (by kernel_rfl) (by kernel_rfl) (fun _ _ _ h => h) (Or.inl ⟨by rfl, ?_⟩) (by assumption) ?_
    rotate_left
    · intro w hSw
      (try dsimp only at hSw)
      go_simp
      (try with_reducible rfl)
    (try simp only [Act.put, List.setIfInBounds_toArray, List.set_cons_zero, List.set_cons_succ])
    refine takeD (i := 2) (d := 84) (v := ?_) rfl rfl (by kernel_rfl) (by kernel_rfl) (by kernel_rfl) (fun _ _ _ h => h) (Or.inl ⟨by rfl, ?_⟩) (by assumption) ?_
    rotate_left
    · intro w hSw
      (try dsimp only at hSw)
      go_simp
      (try with_reducible rfl)
    (try simp only [Act.put, List.setIfInBounds_toArray, List.set_cons_zero, List.set_cons_succ])
    refine wpAnyH_ready (rs := [1]) (by kernel_rfl) (by simp) ?_
    refine AllReadyH.cons rfl (fun K hK => ?_) AllReadyH.nil
    go_simp
    (go_at_call 15)
    refine (HPQ.out g _ (by exact GG.out) (HIg.out.below (lim := V5.heap.size) ((Below.refl _ _).drew) GG.out)).mono ?_
    rintro e r_21 ⟨f, rfl, hf, hfi, hb21⟩
    have HD21 : Hid (Below V5.heap.size V5 r_21) := Lib.hid ((Below.refl V5.heap.size V5).drew.trans hb21)
    have HF := Lib.hid hf
    have HFI := Lib.hid hfi
    clear hf hfi
    obtain ⟨x21_0, x21_1, x21_2, x21_3, x21_4, x21_5, x21_6, x21_7, x21_8⟩ := HKx5v.out.below HD21.out GX.out
    obtain ⟨q21_0, q21_1, q21_2, q21_3, q21_4, q21_5, q21_6, q21_7, q21_8⟩ := HKq.out.below HD21.out GQ.out
    clear hb21 x20_0 x20_1 x20_2 x20_3 x20_4 x20_5 x20_6 x20_7 x20_8 q20_0 q20_1 q20_2 q20_3 q20_4 q20_5 q20_6 q20_7 q20_8
    refine hK.out _ _ ?_ (fun hHeld2 => ?_)
    · go_keep
    clear hHeld hK K
    have hHeld := hHeld2
    clear hHeld2
    (try simp only [Act.put, List.setIfInBounds_toArray, List.set_cons_zero, List.set_cons_succ])
    refine wpAnyH_ready (rs := [3]) (by kernel_rfl) (by simp) ?_
    refine AllReadyH.cons rfl (fun K hK => ?_) AllReadyH.nil
    go_simp
    (go_at_call 12)
    refine (HSQ.out f g _ HF.out (Nat.lt_of_lt_of_le GG.out HD21.out.size) HFI.out (HIg.out.below HD21.out GG.out)).mono ?_
    rintro e r_22 ⟨rfl, hb22⟩
    have HD22 : Hid (Below V5.heap.size V5 r_22) := Lib.hid (HD21.out.trans (hb22.mono HD21.out.size))
    obtain ⟨x22_0, x22_1, x22_2, x22_3, x22_4, x22_5, x22_6, x22_7, x22_8⟩ := HKx5v.out.below HD22.out GX.out
    obtain ⟨q22_0, q22_1, q22_2, q22_3, q22_4, q22_5, q22_6, q22_7, q22_8⟩ := HKq.out.below HD22.out GQ.out
    clear hb22 x21_0 x21_1 x21_2 x21_3 x21_4 x21_5 x21_6 x21_7 x21_8 q21_0 q21_1 q21_2 q21_3 q21_4 q21_5 q21_6 q21_7 q21_8
    refine hK.out _ _ ?_ (fun hHeld2 => ?_)
    · go_keep
    clear hHeld hK K
    have hHeld := hHeld2
    clear hHeld2
    (try simp only [Act.put, List.setIfInBounds_toArray, List.set_cons_zero, List.set_cons_succ])
    refine takeD (i := 4) (d := 86) (v := ?_) rfl rfl (by kernel_rfl) (by kernel_rfl) (by kernel_rfl) (fun _ _ _ h => h) (Or.inl ⟨by rfl, ?_⟩) (by assumption) ?_
    rotate_left
    · intro w hSw
      (try dsimp only at hSw)
      go_simp
      (try with_reducible rfl)
    (try simp only [Act.put, List.setIfInBounds_toArray, List.set_cons_zero, List.set_cons_succ])
    refine takeD (i := 5) (d := 87) (v := ?_) rfl rfl (by kernel_rfl) (by kernel_rfl) (by kernel_rfl) (fun _ _ _ h => h) (Or.inl ⟨by rfl, ?_⟩) (by assumption) ?_
    rotate_left
    · intro w hSw
      (try dsimp only at hSw)
      go_simp
      (try with_reducible rfl)
    (try simp only [Act.put, List.setIfInBounds_toArray, List.set_cons_zero, List.set_cons_succ])
    refine wpAnyH_ready (rs := [6]) (by kernel_rfl) (by simp) ?_
    refine AllReadyH.cons rfl (fun K hK => ?_) AllReadyH.nil
    go_simp
    (go_at_call 18)
    refine (HO.out _).mono ?_
    rintro e r_23 ⟨rfl, hb23⟩
    have HD23 : Hid (Below V5.heap.size V5 r_23) := Lib.hid (HD22.out.trans (hb23.mono HD22.out.size))
    obtain ⟨x23_0, x23_1, x23_2, x23_3, x23_4, x23_5, x23_6, x23_7, x23_8⟩ := HKx5v.out.below HD23.out GX.out
    obtain ⟨q23_0, q23_1, q23_2, q23_3, q23_4, q23_5, q23_6, q23_7, q23_8⟩ := HKq.out.below HD23.out GQ.out
    clear hb23 x22_0 x22_1 x22_2 x22_3 x22_4 x22_5 x22_6 x22_7 x22_8 q22_0 q22_1 q22_2 q22_3 q22_4 q22_5 q22_6 q22_7 q22_8
    refine hK.out _ _ ?_ (fun hHeld2 => ?_)
    · go_keep
    clear hHeld hK K
    have hHeld := hHeld2
    clear hHeld2
    (try simp only [Act.put, List.setIfInBounds_toArray, List.set_cons_zero, List.set_cons_succ])
    refine wpAnyH_ready (rs := [7]) (by kernel_rfl) (by simp) ?_
    refine AllReadyH.cons rfl (fun K hK => ?_) AllReadyH.nil
    go_simp
    (try go_wp2_with fail)
    refine hK.out _ _ ?_ (fun hHeld2 => ?_)
    · go_keep
    clear hHeld hK K
    have hHeld := hHeld2
    clear hHeld2
    (try simp only [Act.put, List.setIfInBounds_toArray, List.set_cons_zero, List.set_cons_succ])
    refine takeD (i := 8) (d := 90) (v := ?_) rfl rfl (by kernel_rfl) (by kernel_rfl) (by kernel_rfl) (fun _ _ _ h => h) (Or.inl ⟨by rfl, ?_⟩) (by assumption) ?_
    rotate_left
    · intro w hSw
      (try dsimp only at hSw)
      go_simp
      (try with_reducible rfl)
    (try simp only [Act.put, List.setIfInBounds_toArray, List.set_cons_zero, List.set_cons_succ])
    refine takeD (i := 9) (d := 91) (v := ?_) rfl rfl (by kernel_rfl) (by kernel_rfl) (by kernel_rfl) (fun _ _ _ h => h) (Or.inl ⟨by rfl, ?_⟩) (by assumption) ?_
    rotate_left
    · intro w hSw
      (try dsimp only at hSw)
      go_simp
      (try with_reducible rfl)
    (try simp only [Act.put, List.setIfInBounds_toArray, List.set_cons_zero, List.set_cons_succ])
    refine takeD (i := 10) (d := 92) (v := ?_) rfl rfl (by kernel_rfl) (by kernel_rfl) (by kernel_rfl) (fun _ _ _ h => h) (Or.inl ⟨by rfl, ?_⟩) (by assumption) ?_
    rotate_left
    · intro w hSw
      (try dsimp only at hSw)
      go_simp
      (try with_reducible rfl)
    (try simp only [Act.put, List.setIfInBounds_toArray, List.set_cons_zero, List.set_cons_succ])
    refine takeD (i := 11) (d := 93) (v := ?_) rfl rfl (by kernel_rfl) (by kernel_rfl) (by kernel_rfl) (fun _ _ _ h => h) (Or.inl ⟨by rfl, ?_⟩) (by assumption) ?_
    rotate_left
    · intro w hSw
      (try dsimp only at hSw)
      go_simp
      (try with_reducible rfl)
    (try simp only [Act.put, List.setIfInBounds_toArray, List.set_cons_zero, List.set_cons_succ])
    refine wpAnyH_ready (rs := [12]) (by kernel_rfl) (by simp) ?_
    refine AllReadyH.cons rfl (fun K hK => ?_) AllReadyH.nil
    go_simp
    (go_at_call 19)
    refine (HE.out _).mono ?_
    rintro e r_24 ⟨rfl, hb24⟩
    have HD24 : Hid (Below V5.heap.size V5 r_24) := Lib.hid (HD23.out.trans (hb24.mono HD23.out.size))
    obtain ⟨x24_0, x24_1, x24_2, x24_3, x24_4, x24_5, x24_6, x24_7, x24_8⟩ := HKx5v.out.below HD24.out GX.out
    obtain ⟨q24_0, q24_1, q24_2, q24_3, q24_4, q24_5, q24_6, q24_7, q24_8⟩ := HKq.out.below HD24.out GQ.out
    clear hb24 x23_0 x23_1 x23_2 x23_3 x23_4 x23_5 x23_6 x23_7 x23_8 q23_0 q23_1 q23_2 q23_3 q23_4 q23_5 q23_6 q23_7 q23_8
    refine hK.out _ _ ?_ (fun hHeld2 => ?_)
    · go_keep
    clear hHeld hK K
    have hHeld := hHeld2
    clear hHeld2
    (try simp only [Act.put, List.setIfInBounds_toArray, List.set_cons_zero, List.set_cons_succ])
    refine wpAnyH_ready (rs := [13]) (by kernel_rfl) (by simp) ?_
    refine AllReadyH.cons rfl (fun K hK => ?_) AllReadyH.nil
    go_simp
    (try go_wp2_with fail)
    refine hK.out _ _ ?_ (fun hHeld2 => ?_)
    · go_keep
    clear hHeld hK K
    have hHeld := hHeld2
    clear hHeld2
    (try simp only [Act.put, List.setIfInBounds_toArray, List.set_cons_zero, List.set_cons_succ])
    refine takeD (i := 14) (d := 96) (v := ?_) rfl rfl (by kernel_rfl) (by kernel_rfl) (by kernel_rfl) (fun _ _ _ h => h) (Or.inl ⟨by rfl, ?_⟩) (by assumption) ?_
    rotate_left
    · intro w hSw
      (try dsimp only at hSw)
      go_simp
      (try with_reducible rfl)
    (try simp only [Act.put, List.setIfInBounds_toArray, List.set_cons_zero, List.set_cons_succ])
    refine takeD (i := 15) (d := 97) (v := ?_) rfl rfl (by kernel_rfl) (by kernel_rfl) (by kernel_rfl) (fun _ _ _ h => h) (Or.inl ⟨by rfl, ?_⟩) (by assumption) ?_
    rotate_left
    · intro w hSw
      (try dsimp only at hSw)
      go_simp
      (try with_reducible rfl)
    (try simp only [Act.put, List.setIfInBounds_toArray, List.set_cons_zero, List.set_cons_succ])
    refine takeD (i := 16) (d := 98) (v := ?_) rfl rfl (by kernel_rfl) (by kernel_rfl) (by kernel_rfl) (fun _ _ _ h => h) (Or.inl ⟨by rfl, ?_⟩) (by assumption) ?_
    rotate_left
    · intro w hSw
      (try dsimp only at hSw)
      go_simp
      (try with_reducible rfl)
    (try simp only [Act.put, List.setIfInBounds_toArray, List.set_cons_zero, List.set_cons_succ])
    refine takeD (i := 22) (d := 104) (v := ?_) rfl rfl (by kernel_rfl) (by kernel_rfl) (by kernel_rfl) (fun _ _ _ h => h) (Or.inl ⟨by rfl, ?_⟩) (by assumption) ?_
    rotate_left
    · intro w hSw
      (try dsimp only at hSw)
      go_simp
      (try with_reducible rfl)
    (try simp only [Act.put, List.setIfInBounds_toArray, List.set_cons_zero, List.set_cons_succ])
    refine takeD (i := 23) (d := 105) (v := ?_) rfl rfl (by kernel_rfl) (by kernel_rfl) (by kernel_rfl) (fun _ _ _ h => h) (Or.inl ⟨by rfl, ?_⟩) (by assumption) ?_
    rotate_left
    · intro w hSw
      (try dsimp only at hSw)
      go_simp
      (try with_reducible rfl)
    (try simp only [Act.put, List.setIfInBounds_toArray, List.set_cons_zero, List.set_cons_succ])
    refine wpAnyH_ready (rs := [17]) (by kernel_rfl) (by simp) ?_
    refine AllReadyH.cons rfl (fun K hK => ?_) AllReadyH.nil
    go_simp
    (go_at_call 19)
    refine (HEQ.out g _ (Nat.lt_of_lt_of_le GG.out HD24.out.size) (HIg.out.below HD24.out GG.out)).mono ?_
    rintro e r_25 ⟨k2, rfl, hf2, hfi2, hb25⟩
    have HD25 : Hid (Below V5.heap.size V5 r_25) := Lib.hid (HD24.out.trans (hb25.mono HD24.out.size))
    obtain ⟨kk0, kk1, kk2, kk3, kk4, kk5, kk6, kk7, kk8⟩ := hfi2
    obtain ⟨x25_0, x25_1, x25_2, x25_3, x25_4, x25_5, x25_6, x25_7, x25_8⟩ := HKx5v.out.below HD25.out GX.out
    obtain ⟨q25_0, q25_1, q25_2, q25_3, q25_4, q25_5, q25_6, q25_7, q25_8⟩ := HKq.out.below HD25.out GQ.out
    clear hb25 x24_0 x24_1 x24_2 x24_3 x24_4 x24_5 x24_6 x24_7 x24_8 q24_0 q24_1 q24_2 q24_3 q24_4 q24_5 q24_6 q24_7 q24_8
    refine hK.out _ _ ?_ (fun hHeld2 => ?_)
    · go_keep
    clear hHeld hK K
    have hHeld := hHeld2
    clear hHeld2
    (try simp only [Act.put, List.setIfInBounds_toArray, List.set_cons_zero, List.set_cons_succ])
    refine wpAnyH_ready (rs := [18]) (by kernel_rfl) (by simp) ?_
    refine AllReadyH.cons rfl (fun K hK => ?_) AllReadyH.nil
    go_simp
    (try go_wp2_with fail)
    refine hK.out _ _ ?_ (fun hHeld2 => ?_)
    · go_keep
    clear hHeld hK K
    have hHeld := hHeld2
    clear hHeld2
    (try simp only [Act.put, List.setIfInBounds_toArray, List.set_cons_zero, List.set_cons_succ])
    refine takeD (i := 19) (d := 101) (v := ?_) rfl rfl (by kernel_rfl) (by kernel_rfl) (by kernel_rfl) (fun _ _ _ h => h) (Or.inl ⟨by rfl, ?_⟩) (by assumption) ?_
    rotate_left
    · intro w hSw
      (try dsimp only at hSw)
      go_simp
      (try with_reducible rfl)
    (try simp only [Act.put, List.setIfInBounds_toArray, List.set_cons_zero, List.set_cons_succ])
    refine takeD (i := 20) (d := 102) (v := ?_) rfl rfl (by kernel_rfl) (by kernel_rfl) (by kernel_rfl) (fun _ _ _ h => h) (Or.inl ⟨by rfl, ?_⟩) (by assumption) ?_
    rotate_left
    · intro w hSw
      (try dsimp only at hSw)
      go_simp
      (try with_reducible rfl)
    (try simp only [Act.put, List.setIfInBounds_toArray, List.set_cons_zero, List.set_cons_succ])
    refine wpAnyH_ready (rs := [21]) (by kernel_rfl) (by simp) ?_
    refine AllReadyH.cons rfl (fun K hK => ?_) AllReadyH.nil
    go_simp
    (try go_wp2_with fail)
    refine hK.out _ _ ?_ (fun hHeld2 => ?_)
    · go_keep
    clear hHeld hK K
    have hHeld := hHeld2
    clear hHeld2
    (try simp only [Act.put, List.setIfInBounds_toArray, List.set_cons_zero, List.set_cons_succ])
    refine takeD (i := 24) (d := 106) (v := ?_) rfl rfl (by kernel_rfl) (by kernel_rfl) (by kernel_rfl) (fun _ _ _ h => h) (Or.inl ⟨by rfl, ?_⟩) (by assumption) ?_
    rotate_left
    · intro w hSw
      (try dsimp only at hSw)
      go_simp
      (try with_reducible rfl)
    (try simp only [Act.put, List.setIfInBounds_toArray, List.set_cons_zero, List.set_cons_succ])
    refine takeD (i := 25) (d := 107) (v := ?_) rfl rfl (by kernel_rfl) (by kernel_rfl) (by kernel_rfl) (fun _ _ _ h => h) (Or.inl ⟨by rfl, ?_⟩) (by assumption) ?_
    rotate_left
    · intro w hSw
      (try dsimp only at hSw)
      go_simp
      (try with_reducible rfl)
    (try simp only [Act.put, List.setIfInBounds_toArray, List.set_cons_zero, List.set_cons_succ])
    refine takeD (i := 26) (d := 4) (v := ?_) rfl rfl (by kernel_rfl) (by kernel_rfl) (by kernel_rfl) (fun _ _ _ h => h) (Or.inl ⟨by rfl, ?_⟩) (by assumption) ?_
    rotate_left
    · intro w hSw
      (try dsimp only at hSw)
      go_simp
      (try with_reducible rfl)
    (try simp only [Act.put, List.setIfInBounds_toArray, List.set_cons_zero, List.set_cons_succ])
    refine wpAnyH_done (by kernel_rfl) ?_ _
    clear hHeld
    go_wp2_with fail
    go_ret
    exact ⟨rfl, HBV5.out.trans (HD25.out.mono HBV5.out.size)⟩

  · have H1 := Lib.hid (show ∀ w, Calls Try.prog 14 #[.agg #[.int .i64 1, .int .i64 8, .bool s, .bool c, .pointer none, .int .i64 0, .int .i64 0, .slice none 0 0, .pointer none], .agg #[.int .i64 1, .int .i64 m, .bool t, .bool d, .pointer none, .int .i64 0, .int .i64 0, .slice none 0 0, .pointer none]] w (AggIs k u v w) from C1)
    have H2 := Lib.hid (show ∀ w, Calls Try.prog 16 #[.agg #[.int .i64 1, .int .i64 8, .bool s, .bool c, .pointer none, .int .i64 0, .int .i64 0, .slice none 0 0, .pointer none], .agg #[.int .i64 1, .int .i64 m, .bool t, .bool d, .pointer none, .int .i64 0, .int .i64 0, .slice none 0 0, .pointer none]] w (AggIs k u v w) from C2)
    have H3 := Lib.hid (show ∀ w, Calls Try.prog 14 #[.agg #[.int .i64 1, .int .i64 m, .bool t, .bool d, .pointer none, .int .i64 0, .int .i64 0, .slice none 0 0, .pointer none], .agg #[.int .i64 1, .int .i64 8, .bool s, .bool c, .pointer none, .int .i64 0, .int .i64 0, .slice none 0 0, .pointer none]] w (AggIs k u v w) from C3)
    have HP := Lib.hid (show ∀ w, Calls Try.prog 15 #[.agg #[.int .i64 1, .int .i64 8, .bool s, .bool c, .pointer none, .int .i64 0, .int .i64 0, .slice none 0 0, .pointer none]] w (AggIs 8 s c w) from promote_int 8 s c)
    have HS := Lib.hid (show ∀ w, Calls Try.prog 12 #[.agg #[.int .i64 1, .int .i64 k, .bool u, .bool v, .pointer none, .int .i64 0, .int .i64 0, .slice none 0 0, .pointer none], .agg #[.int .i64 1, .int .i64 k, .bool u, .bool v, .pointer none, .int .i64 0, .int .i64 0, .slice none 0 0, .pointer none]] w (BoolIs true w) from same_true k u v)
    have HSX := Lib.hid (show ∀ w, Calls Try.prog 12 #[.agg #[.int .i64 1, .int .i64 8, .bool s, .bool c, .pointer none, .int .i64 0, .int .i64 0, .slice none 0 0, .pointer none], .agg #[.int .i64 1, .int .i64 8, .bool s, .bool c, .pointer none, .int .i64 0, .int .i64 0, .slice none 0 0, .pointer none]] w (BoolIs true w) from same_true 8 s c)
    have HQ := Lib.hid (show ∀ w, Calls Try.prog 17 #[.agg #[.int .i64 1, .int .i64 8, .bool s, .bool c, .pointer none, .int .i64 0, .int .i64 0, .slice none 0 0, .pointer none]] w (QIs 8 s c w) from ptr_is 8 s c)
    have HPQ := Lib.hid (show ∀ g w, g < w.heap.size → I9 w g 8 s c → Calls Try.prog 15 #[.agg #[.int .i64 2, .int .i64 8, .bool false, .bool false, .pointer (some ⟨g, 0, none⟩), .int .i64 0, .int .i64 0, .slice none 0 0, .pointer none]] w (QIs 8 s c w) from prq_is 8 s c)
    have HSQ := Lib.hid (show ∀ g h w, g < w.heap.size → h < w.heap.size → I9 w g 8 s c → I9 w h 8 s c → Calls Try.prog 12 #[.agg #[.int .i64 2, .int .i64 8, .bool false, .bool false, .pointer (some ⟨g, 0, none⟩), .int .i64 0, .int .i64 0, .slice none 0 0, .pointer none], .agg #[.int .i64 2, .int .i64 8, .bool false, .bool false, .pointer (some ⟨h, 0, none⟩), .int .i64 0, .int .i64 0, .slice none 0 0, .pointer none]] w (BoolIs true w) from sameq_is 8 s c)
    have HO := Lib.hid (show ∀ w, Calls Try.prog 18 #[.agg #[.int .i64 1, .int .i64 8, .bool s, .bool c, .pointer none, .int .i64 0, .int .i64 0, .slice none 0 0, .pointer none]] w (AggIs 8 s false w) from open_int 8 s c)
    have HE := Lib.hid (show ∀ w, Calls Try.prog 19 #[.agg #[.int .i64 1, .int .i64 8, .bool s, .bool c, .pointer none, .int .i64 0, .int .i64 0, .slice none 0 0, .pointer none]] w (AggIs 8 s true w) from secret_int 8 s c)
    have HEQ := Lib.hid (show ∀ g w, g < w.heap.size → I9 w g 8 s c → Calls Try.prog 19 #[.agg #[.int .i64 2, .int .i64 8, .bool false, .bool false, .pointer (some ⟨g, 0, none⟩), .int .i64 0, .int .i64 0, .slice none 0 0, .pointer none]] w (QIs 8 s c w) from seq_is 8 s c)
    clear C1 C2 C3
    have LX2 : Hid (w2.heap.size < V2.heap.size) := Lib.hid (by have := HZx3.out; have := HSV2.out; omega)
    have LY2 : Hid (w3.heap.size < V2.heap.size) := Lib.hid (by have := HSV2.out; omega)
    clear hx3 x2_0 x2_1 x2_2 x2_3 x2_4 x2_5 x2_6 x2_7 x2_8
    (with_reducible refine (H1.out _).mono ?_)
    rintro e w4 ⟨rfl, hb4⟩
    have HB4 := Lib.hid (HBV2.out.trans (hb4.mono HBV2.out.size))
    have HKx4 : Hid (I9 w4 w2.heap.size 8 s c) := Lib.hid (HKx_V2.out.below hb4 LX2.out)
    have HKy4 : Hid (I9 w4 w3.heap.size m t d) := Lib.hid (HKy.out.below hb4 LY2.out)
    have LX4 : Hid (w2.heap.size < w4.heap.size) := Lib.hid (by have := hb4.size; have := LX2.out; omega)
    have LY4 : Hid (w3.heap.size < w4.heap.size) := Lib.hid (by have := hb4.size; have := LY2.out; omega)
    clear hb4
    obtain ⟨x3_0, x3_1, x3_2, x3_3, x3_4, x3_5, x3_6, x3_7, x3_8⟩ := HKx4.out
    have hx4 : w2.heap.size < w4.heap.size := LX4.out
    go_wp2_with fail
    generalize hW : w4.alloc _ = V3
    have HKz : Hid (I9 V3 w4.heap.size k u v) := Lib.hid (by rw [← hW]; exact i9_alloc w4 k u v _)
    have HBV3 : Hid (Below w.heap.size w V3) := Lib.hid (by rw [← hW]; exact HB4.out.alloc HB4.out.size _)
    have HSV3 : Hid (V3.heap.size = w4.heap.size + 1) := Lib.hid (by rw [← hW]; simp)
    have HKx_V3 : Hid (I9 V3 w2.heap.size 8 s c) := Lib.hid (HKx4.out.below (lim := w4.heap.size) (by rw [← hW]; exact (Below.refl _ _).alloc (Nat.le_refl _) _) (LX4.out))
    have HKy_V3 : Hid (I9 V3 w3.heap.size m t d) := Lib.hid (HKy4.out.below (lim := w4.heap.size) (by rw [← hW]; exact (Below.refl _ _).alloc (Nat.le_refl _) _) (LY4.out))
    clear hW
    have LX3 : Hid (w2.heap.size < V3.heap.size) := Lib.hid (by have := LX4.out; have := HSV3.out; omega)
    have LY3 : Hid (w3.heap.size < V3.heap.size) := Lib.hid (by have := LY4.out; have := HSV3.out; omega)
    have LZ3 : Hid (w4.heap.size < V3.heap.size) := Lib.hid (by have := HSV3.out; omega)
    clear hx4 x3_0 x3_1 x3_2 x3_3 x3_4 x3_5 x3_6 x3_7 x3_8
    (with_reducible refine (HP.out _).mono ?_)
    rintro e w5 ⟨rfl, hb5⟩
    have HB5 := Lib.hid (HBV3.out.trans (hb5.mono HBV3.out.size))
    have HKx5 : Hid (I9 w5 w2.heap.size 8 s c) := Lib.hid (HKx_V3.out.below hb5 LX3.out)
    have HKy5 : Hid (I9 w5 w3.heap.size m t d) := Lib.hid (HKy_V3.out.below hb5 LY3.out)
    have HKz5 : Hid (I9 w5 w4.heap.size k u v) := Lib.hid (HKz.out.below hb5 LZ3.out)
    have LX5 : Hid (w2.heap.size < w5.heap.size) := Lib.hid (by have := hb5.size; have := LX3.out; omega)
    have LY5 : Hid (w3.heap.size < w5.heap.size) := Lib.hid (by have := hb5.size; have := LY3.out; omega)
    have LZ5 : Hid (w4.heap.size < w5.heap.size) := Lib.hid (by have := hb5.size; have := LZ3.out; omega)
    clear hb5
    go_wp2_with fail
    generalize hW : w5.alloc _ = V4
    have HKp : Hid (I9 V4 w5.heap.size 8 s c) := Lib.hid (by rw [← hW]; exact i9_alloc w5 8 s c _)
    have HBV4 : Hid (Below w.heap.size w V4) := Lib.hid (by rw [← hW]; exact HB5.out.alloc HB5.out.size _)
    have HSV4 : Hid (V4.heap.size = w5.heap.size + 1) := Lib.hid (by rw [← hW]; simp)
    have HKx_V4 : Hid (I9 V4 w2.heap.size 8 s c) := Lib.hid (HKx5.out.below (lim := w5.heap.size) (by rw [← hW]; exact (Below.refl _ _).alloc (Nat.le_refl _) _) (LX5.out))
    have HKy_V4 : Hid (I9 V4 w3.heap.size m t d) := Lib.hid (HKy5.out.below (lim := w5.heap.size) (by rw [← hW]; exact (Below.refl _ _).alloc (Nat.le_refl _) _) (LY5.out))
    have HKz_V4 : Hid (I9 V4 w4.heap.size k u v) := Lib.hid (HKz5.out.below (lim := w5.heap.size) (by rw [← hW]; exact (Below.refl _ _).alloc (Nat.le_refl _) _) (LZ5.out))
    clear hW
    have LX : Hid (w2.heap.size < V4.heap.size) := Lib.hid (by have := LX5.out; have := HSV4.out; omega)
    have LY : Hid (w3.heap.size < V4.heap.size) := Lib.hid (by have := LY5.out; have := HSV4.out; omega)
    have LZ : Hid (w4.heap.size < V4.heap.size) := Lib.hid (by have := LZ5.out; have := HSV4.out; omega)
    have LP : Hid (w5.heap.size < V4.heap.size) := Lib.hid (by have := HSV4.out; omega)
    obtain ⟨x0_0, x0_1, x0_2, x0_3, x0_4, x0_5, x0_6, x0_7, x0_8⟩ := HKx_V4.out
    obtain ⟨y0_0, y0_1, y0_2, y0_3, y0_4, y0_5, y0_6, y0_7, y0_8⟩ := HKy_V4.out
    obtain ⟨z0_0, z0_1, z0_2, z0_3, z0_4, z0_5, z0_6, z0_7, z0_8⟩ := HKz_V4.out
    obtain ⟨p0_0, p0_1, p0_2, p0_3, p0_4, p0_5, p0_6, p0_7, p0_8⟩ := HKp.out
    refine wp_region_held_drew (S := (fun w' => w'.cell? ⟨w2.heap.size, 0, none⟩ = some (.int .i64 1) ∧ w'.cell? ⟨w2.heap.size, 1, none⟩ = some (.int .i64 8) ∧ w'.cell? ⟨w2.heap.size, 2, none⟩ = some (.bool s) ∧ w'.cell? ⟨w2.heap.size, 3, none⟩ = some (.bool c) ∧ w'.cell? ⟨w2.heap.size, 4, none⟩ = some (.pointer none) ∧ w'.cell? ⟨w2.heap.size, 5, none⟩ = some (.int .i64 0) ∧ w'.cell? ⟨w2.heap.size, 6, none⟩ = some (.int .i64 0) ∧ w'.cell? ⟨w2.heap.size, 7, none⟩ = some (.slice none 0 0) ∧ w'.cell? ⟨w2.heap.size, 8, none⟩ = some (.pointer none) ∧ w'.cell? ⟨w3.heap.size, 0, none⟩ = some (.int .i64 1) ∧ w'.cell? ⟨w3.heap.size, 1, none⟩ = some (.int .i64 m) ∧ w'.cell? ⟨w3.heap.size, 2, none⟩ = some (.bool t) ∧ w'.cell? ⟨w3.heap.size, 3, none⟩ = some (.bool d) ∧ w'.cell? ⟨w3.heap.size, 4, none⟩ = some (.pointer none) ∧ w'.cell? ⟨w3.heap.size, 5, none⟩ = some (.int .i64 0) ∧ w'.cell? ⟨w3.heap.size, 6, none⟩ = some (.int .i64 0) ∧ w'.cell? ⟨w3.heap.size, 7, none⟩ = some (.slice none 0 0) ∧ w'.cell? ⟨w3.heap.size, 8, none⟩ = some (.pointer none) ∧ w'.cell? ⟨w4.heap.size, 0, none⟩ = some (.int .i64 1) ∧ w'.cell? ⟨w4.heap.size, 1, none⟩ = some (.int .i64 k) ∧ w'.cell? ⟨w4.heap.size, 2, none⟩ = some (.bool u) ∧ w'.cell? ⟨w4.heap.size, 3, none⟩ = some (.bool v) ∧ w'.cell? ⟨w4.heap.size, 4, none⟩ = some (.pointer none) ∧ w'.cell? ⟨w4.heap.size, 5, none⟩ = some (.int .i64 0) ∧ w'.cell? ⟨w4.heap.size, 6, none⟩ = some (.int .i64 0) ∧ w'.cell? ⟨w4.heap.size, 7, none⟩ = some (.slice none 0 0) ∧ w'.cell? ⟨w4.heap.size, 8, none⟩ = some (.pointer none) ∧ w'.cell? ⟨w5.heap.size, 0, none⟩ = some (.int .i64 1) ∧ w'.cell? ⟨w5.heap.size, 1, none⟩ = some (.int .i64 8) ∧ w'.cell? ⟨w5.heap.size, 2, none⟩ = some (.bool s) ∧ w'.cell? ⟨w5.heap.size, 3, none⟩ = some (.bool c) ∧ w'.cell? ⟨w5.heap.size, 4, none⟩ = some (.pointer none) ∧ w'.cell? ⟨w5.heap.size, 5, none⟩ = some (.int .i64 0) ∧ w'.cell? ⟨w5.heap.size, 6, none⟩ = some (.int .i64 0) ∧ w'.cell? ⟨w5.heap.size, 7, none⟩ = some (.slice none 0 0) ∧ w'.cell? ⟨w5.heap.size, 8, none⟩ = some (.pointer none))) (by kernel_rfl) (by go_keep) (fun hHeld => ?_)
    refine takeD (i := 0) (d := 33) (v := ?_) rfl rfl (by kernel_rfl) (by kernel_rfl) (by kernel_rfl) (fun _ _ _ h => h) (Or.inl ⟨by rfl, ?_⟩) (by assumption) ?_
    rotate_left
    · intro w hSw
      (try dsimp only at hSw)
      go_simp
      (try with_reducible rfl)
    (try simp only [Act.put, List.setIfInBounds_toArray, List.set_cons_zero, List.set_cons_succ])
    refine takeD (i := 1) (d := 34) (v := ?_) rfl rfl (by kernel_rfl) (by kernel_rfl) (by kernel_rfl) (fun _ _ _ h => h) (Or.inl ⟨by rfl, ?_⟩) (by assumption) ?_
    rotate_left
    · intro w hSw
      (try dsimp only at hSw)
      go_simp
      (try with_reducible rfl)
    (try simp only [Act.put, List.setIfInBounds_toArray, List.set_cons_zero, List.set_cons_succ])
    refine takeD (i := 2) (d := 35) (v := ?_) rfl rfl (by kernel_rfl) (by kernel_rfl) (by kernel_rfl) (fun _ _ _ h => h) (Or.inl ⟨by rfl, ?_⟩) (by assumption) ?_
    rotate_left
    · intro w hSw
      (try dsimp only at hSw)
      go_simp
      (try with_reducible rfl)
    (try simp only [Act.put, List.setIfInBounds_toArray, List.set_cons_zero, List.set_cons_succ])
    refine wpAnyH_ready (rs := [3]) (by kernel_rfl) (by simp) ?_
    refine AllReadyH.cons rfl (fun K hK => ?_) AllReadyH.nil
    go_simp
    go_at_call 16
    (with_reducible refine (H2.out _).mono ?_)
    rintro e u_1 ⟨rfl, hb1⟩
    have HC1 : Hid (Below V4.heap.size V4 u_1) := Lib.hid ((Below.refl V4.heap.size V4).drew.trans hb1)
    obtain ⟨x1_0, x1_1, x1_2, x1_3, x1_4, x1_5, x1_6, x1_7, x1_8⟩ := HKx_V4.out.below HC1.out LX.out
    obtain ⟨y1_0, y1_1, y1_2, y1_3, y1_4, y1_5, y1_6, y1_7, y1_8⟩ := HKy_V4.out.below HC1.out LY.out
    obtain ⟨z1_0, z1_1, z1_2, z1_3, z1_4, z1_5, z1_6, z1_7, z1_8⟩ := HKz_V4.out.below HC1.out LZ.out
    obtain ⟨p1_0, p1_1, p1_2, p1_3, p1_4, p1_5, p1_6, p1_7, p1_8⟩ := HKp.out.below HC1.out LP.out
    clear hb1 x0_0 x0_1 x0_2 x0_3 x0_4 x0_5 x0_6 x0_7 x0_8 y0_0 y0_1 y0_2 y0_3 y0_4 y0_5 y0_6 y0_7 y0_8 z0_0 z0_1 z0_2 z0_3 z0_4 z0_5 z0_6 z0_7 z0_8 p0_0 p0_1 p0_2 p0_3 p0_4 p0_5 p0_6 p0_7 p0_8
    refine hK.out _ _ ?_ (fun hHeld2 => ?_)
    · go_keep
    clear hHeld hK K
    have hHeld := hHeld2
    clear hHeld2
    (try simp only [Act.put, List.setIfInBounds_toArray, List.set_cons_zero, List.set_cons_succ])
    refine wpAnyH_ready (rs := [4]) (by kernel_rfl) (by simp) ?_
    refine AllReadyH.cons rfl (fun K hK => ?_) AllReadyH.nil
    go_simp
    go_at_call 12
    (with_reducible refine (HS.out _).mono ?_)
    rintro e u_2 ⟨rfl, hb2⟩
    have HC2 : Hid (Below V4.heap.size V4 u_2) := Lib.hid (HC1.out.trans (hb2.mono HC1.out.size))
    obtain ⟨x2_0, x2_1, x2_2, x2_3, x2_4, x2_5, x2_6, x2_7, x2_8⟩ := HKx_V4.out.below HC2.out LX.out
    obtain ⟨y2_0, y2_1, y2_2, y2_3, y2_4, y2_5, y2_6, y2_7, y2_8⟩ := HKy_V4.out.below HC2.out LY.out
    obtain ⟨z2_0, z2_1, z2_2, z2_3, z2_4, z2_5, z2_6, z2_7, z2_8⟩ := HKz_V4.out.below HC2.out LZ.out
    obtain ⟨p2_0, p2_1, p2_2, p2_3, p2_4, p2_5, p2_6, p2_7, p2_8⟩ := HKp.out.below HC2.out LP.out
    clear hb2 x1_0 x1_1 x1_2 x1_3 x1_4 x1_5 x1_6 x1_7 x1_8 y1_0 y1_1 y1_2 y1_3 y1_4 y1_5 y1_6 y1_7 y1_8 z1_0 z1_1 z1_2 z1_3 z1_4 z1_5 z1_6 z1_7 z1_8 p1_0 p1_1 p1_2 p1_3 p1_4 p1_5 p1_6 p1_7 p1_8
    refine hK.out _ _ ?_ (fun hHeld2 => ?_)
    · go_keep
    clear hHeld hK K
    have hHeld := hHeld2
    clear hHeld2
    (try simp only [Act.put, List.setIfInBounds_toArray, List.set_cons_zero, List.set_cons_succ])
    refine takeD (i := 5) (d := 38) (v := ?_) rfl rfl (by kernel_rfl) (by kernel_rfl) (by kernel_rfl) (fun _ _ _ h => h) (Or.inl ⟨by rfl, ?_⟩) (by assumption) ?_
    rotate_left
    · intro w hSw
      (try dsimp only at hSw)
      go_simp
      (try with_reducible rfl)
    (try simp only [Act.put, List.setIfInBounds_toArray, List.set_cons_zero, List.set_cons_succ])
    refine takeD (i := 6) (d := 39) (v := ?_) rfl rfl (by kernel_rfl) (by kernel_rfl) (by kernel_rfl) (fun _ _ _ h => h) (Or.inl ⟨by rfl, ?_⟩) (by assumption) ?_
    rotate_left
    · intro w hSw
      (try dsimp only at hSw)
      go_simp
      (try with_reducible rfl)
    (try simp only [Act.put, List.setIfInBounds_toArray, List.set_cons_zero, List.set_cons_succ])
    refine takeD (i := 7) (d := 40) (v := ?_) rfl rfl (by kernel_rfl) (by kernel_rfl) (by kernel_rfl) (fun _ _ _ h => h) (Or.inl ⟨by rfl, ?_⟩) (by assumption) ?_
    rotate_left
    · intro w hSw
      (try dsimp only at hSw)
      go_simp
      (try with_reducible rfl)
    (try simp only [Act.put, List.setIfInBounds_toArray, List.set_cons_zero, List.set_cons_succ])
    refine takeD (i := 8) (d := 41) (v := ?_) rfl rfl (by kernel_rfl) (by kernel_rfl) (by kernel_rfl) (fun _ _ _ h => h) (Or.inl ⟨by rfl, ?_⟩) (by assumption) ?_
    rotate_left
    · intro w hSw
      (try dsimp only at hSw)
      go_simp
      (try with_reducible rfl)
    (try simp only [Act.put, List.setIfInBounds_toArray, List.set_cons_zero, List.set_cons_succ])
    refine takeD (i := 9) (d := 42) (v := ?_) rfl rfl (by kernel_rfl) (by kernel_rfl) (by kernel_rfl) (fun _ _ _ h => h) (Or.inl ⟨by rfl, ?_⟩) (by assumption) ?_
    rotate_left
    · intro w hSw
      (try dsimp only at hSw)
      go_simp
      (try with_reducible rfl)
    (try simp only [Act.put, List.setIfInBounds_toArray, List.set_cons_zero, List.set_cons_succ])
    refine wpAnyH_ready (rs := [10]) (by kernel_rfl) (by simp) ?_
    refine AllReadyH.cons rfl (fun K hK => ?_) AllReadyH.nil
    go_simp
    go_at_call 14
    (with_reducible refine (H3.out _).mono ?_)
    rintro e u_3 ⟨rfl, hb3⟩
    have HC3 : Hid (Below V4.heap.size V4 u_3) := Lib.hid (HC2.out.trans (hb3.mono HC2.out.size))
    obtain ⟨x3_0, x3_1, x3_2, x3_3, x3_4, x3_5, x3_6, x3_7, x3_8⟩ := HKx_V4.out.below HC3.out LX.out
    obtain ⟨y3_0, y3_1, y3_2, y3_3, y3_4, y3_5, y3_6, y3_7, y3_8⟩ := HKy_V4.out.below HC3.out LY.out
    obtain ⟨z3_0, z3_1, z3_2, z3_3, z3_4, z3_5, z3_6, z3_7, z3_8⟩ := HKz_V4.out.below HC3.out LZ.out
    obtain ⟨p3_0, p3_1, p3_2, p3_3, p3_4, p3_5, p3_6, p3_7, p3_8⟩ := HKp.out.below HC3.out LP.out
    clear hb3 x2_0 x2_1 x2_2 x2_3 x2_4 x2_5 x2_6 x2_7 x2_8 y2_0 y2_1 y2_2 y2_3 y2_4 y2_5 y2_6 y2_7 y2_8 z2_0 z2_1 z2_2 z2_3 z2_4 z2_5 z2_6 z2_7 z2_8 p2_0 p2_1 p2_2 p2_3 p2_4 p2_5 p2_6 p2_7 p2_8
    refine hK.out _ _ ?_ (fun hHeld2 => ?_)
    · go_keep
    clear hHeld hK K
    have hHeld := hHeld2
    clear hHeld2
    (try simp only [Act.put, List.setIfInBounds_toArray, List.set_cons_zero, List.set_cons_succ])
    refine wpAnyH_ready (rs := [11]) (by kernel_rfl) (by simp) ?_
    refine AllReadyH.cons rfl (fun K hK => ?_) AllReadyH.nil
    go_simp
    go_at_call 12
    (with_reducible refine (HS.out _).mono ?_)
    rintro e u_4 ⟨rfl, hb4⟩
    have HC4 : Hid (Below V4.heap.size V4 u_4) := Lib.hid (HC3.out.trans (hb4.mono HC3.out.size))
    obtain ⟨x4_0, x4_1, x4_2, x4_3, x4_4, x4_5, x4_6, x4_7, x4_8⟩ := HKx_V4.out.below HC4.out LX.out
    obtain ⟨y4_0, y4_1, y4_2, y4_3, y4_4, y4_5, y4_6, y4_7, y4_8⟩ := HKy_V4.out.below HC4.out LY.out
    obtain ⟨z4_0, z4_1, z4_2, z4_3, z4_4, z4_5, z4_6, z4_7, z4_8⟩ := HKz_V4.out.below HC4.out LZ.out
    obtain ⟨p4_0, p4_1, p4_2, p4_3, p4_4, p4_5, p4_6, p4_7, p4_8⟩ := HKp.out.below HC4.out LP.out
    clear hb4 x3_0 x3_1 x3_2 x3_3 x3_4 x3_5 x3_6 x3_7 x3_8 y3_0 y3_1 y3_2 y3_3 y3_4 y3_5 y3_6 y3_7 y3_8 z3_0 z3_1 z3_2 z3_3 z3_4 z3_5 z3_6 z3_7 z3_8 p3_0 p3_1 p3_2 p3_3 p3_4 p3_5 p3_6 p3_7 p3_8
    refine hK.out _ _ ?_ (fun hHeld2 => ?_)
    · go_keep
    clear hHeld hK K
    have hHeld := hHeld2
    clear hHeld2
    (try simp only [Act.put, List.setIfInBounds_toArray, List.set_cons_zero, List.set_cons_succ])
    refine takeD (i := 12) (d := 45) (v := ?_) rfl rfl (by kernel_rfl) (by kernel_rfl) (by kernel_rfl) (fun _ _ _ h => h) (Or.inl ⟨by rfl, ?_⟩) (by assumption) ?_
    rotate_left
    · intro w hSw
      (try dsimp only at hSw)
      go_simp
      (try with_reducible rfl)
    (try simp only [Act.put, List.setIfInBounds_toArray, List.set_cons_zero, List.set_cons_succ])
    refine takeD (i := 13) (d := 46) (v := ?_) rfl rfl (by kernel_rfl) (by kernel_rfl) (by kernel_rfl) (fun _ _ _ h => h) (Or.inl ⟨by rfl, ?_⟩) (by assumption) ?_
    rotate_left
    · intro w hSw
      (try dsimp only at hSw)
      go_simp
      (try with_reducible rfl)
    (try simp only [Act.put, List.setIfInBounds_toArray, List.set_cons_zero, List.set_cons_succ])
    refine takeD (i := 14) (d := 47) (v := ?_) rfl rfl (by kernel_rfl) (by kernel_rfl) (by kernel_rfl) (fun _ _ _ h => h) (Or.inl ⟨by rfl, ?_⟩) (by assumption) ?_
    rotate_left
    · intro w hSw
      (try dsimp only at hSw)
      go_simp
      (try with_reducible rfl)
    (try simp only [Act.put, List.setIfInBounds_toArray, List.set_cons_zero, List.set_cons_succ])
    refine takeD (i := 15) (d := 48) (v := ?_) rfl rfl (by kernel_rfl) (by kernel_rfl) (by kernel_rfl) (fun _ _ _ h => h) (Or.inl ⟨by rfl, ?_⟩) (by assumption) ?_
    rotate_left
    · intro w hSw
      (try dsimp only at hSw)
      go_simp
      (try with_reducible rfl)
    (try simp only [Act.put, List.setIfInBounds_toArray, List.set_cons_zero, List.set_cons_succ])
    refine takeD (i := 16) (d := 49) (v := ?_) rfl rfl (by kernel_rfl) (by kernel_rfl) (by kernel_rfl) (fun _ _ _ h => h) (Or.inl ⟨by rfl, ?_⟩) (by assumption) ?_
    rotate_left
    · intro w hSw
      (try dsimp only at hSw)
      go_simp
      (try with_reducible rfl)
    (try simp only [Act.put, List.setIfInBounds_toArray, List.set_cons_zero, List.set_cons_succ])
    refine takeD (i := 17) (d := 50) (v := ?_) rfl rfl (by kernel_rfl) (by kernel_rfl) (by kernel_rfl) (fun _ _ _ h => h) (Or.inl ⟨by rfl, ?_⟩) (by assumption) ?_
    rotate_left
    · intro w hSw
      (try dsimp only at hSw)
      go_simp
      (try with_reducible rfl)
    (try simp only [Act.put, List.setIfInBounds_toArray, List.set_cons_zero, List.set_cons_succ])
    refine takeD (i := 18) (d := 51) (v := ?_) rfl rfl (by kernel_rfl) (by kernel_rfl) (by kernel_rfl) (fun _ _ _ h => h) (Or.inl ⟨by rfl, ?_⟩) (by assumption) ?_
    rotate_left
    · intro w hSw
      (try dsimp only at hSw)
      go_simp
      (try with_reducible rfl)
    (try simp only [Act.put, List.setIfInBounds_toArray, List.set_cons_zero, List.set_cons_succ])
    refine takeD (i := 19) (d := 52) (v := ?_) rfl rfl (by kernel_rfl) (by kernel_rfl) (by kernel_rfl) (fun _ _ _ h => h) (Or.inl ⟨by rfl, ?_⟩) (by assumption) ?_
    rotate_left
    · intro w hSw
      (try dsimp only at hSw)
      go_simp
      (try with_reducible rfl)
    (try simp only [Act.put, List.setIfInBounds_toArray, List.set_cons_zero, List.set_cons_succ])
    refine takeD (i := 20) (d := 53) (v := ?_) rfl rfl (by kernel_rfl) (by kernel_rfl) (by kernel_rfl) (fun _ _ _ h => h) (Or.inl ⟨by rfl, ?_⟩) (by assumption) ?_
    rotate_left
    · intro w hSw
      (try dsimp only at hSw)
      go_simp
      (try with_reducible rfl)
    (try simp only [Act.put, List.setIfInBounds_toArray, List.set_cons_zero, List.set_cons_succ])
    refine takeD (i := 21) (d := 54) (v := ?_) rfl rfl (by kernel_rfl) (by kernel_rfl) (by kernel_rfl) (fun _ _ _ h => h) (Or.inl ⟨by rfl, ?_⟩) (by assumption) ?_
    rotate_left
    · intro w hSw
      (try dsimp only at hSw)
      go_simp
      (try with_reducible rfl)
    (try simp only [Act.put, List.setIfInBounds_toArray, List.set_cons_zero, List.set_cons_succ])
    refine takeD (i := 22) (d := 55) (v := ?_) rfl rfl (by kernel_rfl) (by kernel_rfl) (by kernel_rfl) (fun _ _ _ h => h) (Or.inl ⟨by rfl, ?_⟩) (by assumption) ?_
    rotate_left
    · intro w hSw
      (try dsimp only at hSw)
      go_simp
      (try with_reducible rfl)
    (try simp only [Act.put, List.setIfInBounds_toArray, List.set_cons_zero, List.set_cons_succ])
    refine takeD (i := 23) (d := 56) (v := ?_) rfl rfl (by kernel_rfl) (by kernel_rfl) (by kernel_rfl) (fun _ _ _ h => h) (Or.inl ⟨by rfl, ?_⟩) (by assumption) ?_
    rotate_left
    · intro w hSw
      (try dsimp only at hSw)
      go_simp
      (try with_reducible rfl)
    (try simp only [Act.put, List.setIfInBounds_toArray, List.set_cons_zero, List.set_cons_succ])
    refine takeD (i := 24) (d := 57) (v := ?_) rfl rfl (by kernel_rfl) (by kernel_rfl) (by kernel_rfl) (fun _ _ _ h => h) (Or.inl ⟨by rfl, ?_⟩) (by assumption) ?_
    rotate_left
    · intro w hSw
      (try dsimp only at hSw)
      go_simp
      (try with_reducible rfl)
    (try simp only [Act.put, List.setIfInBounds_toArray, List.set_cons_zero, List.set_cons_succ])
    refine takeD (i := 25) (d := 58) (v := ?_) rfl rfl (by kernel_rfl) (by kernel_rfl) (by kernel_rfl) (fun _ _ _ h => h) (Or.inl ⟨by rfl, ?_⟩) (by assumption) ?_
    rotate_left
    · intro w hSw
      (try dsimp only at hSw)
      go_simp
      (try with_reducible rfl)
    (try simp only [Act.put, List.setIfInBounds_toArray, List.set_cons_zero, List.set_cons_succ])
    refine takeD (i := 26) (d := 59) (v := ?_) rfl rfl (by kernel_rfl) (by kernel_rfl) (by kernel_rfl) (fun _ _ _ h => h) (Or.inl ⟨by rfl, ?_⟩) (by assumption) ?_
    rotate_left
    · intro w hSw
      (try dsimp only at hSw)
      go_simp
      (try with_reducible rfl)
    (try simp only [Act.put, List.setIfInBounds_toArray, List.set_cons_zero, List.set_cons_succ])
    refine takeD (i := 27) (d := 60) (v := ?_) rfl rfl (by kernel_rfl) (by kernel_rfl) (by kernel_rfl) (fun _ _ _ h => h) (Or.inl ⟨by rfl, ?_⟩) (by assumption) ?_
    rotate_left
    · intro w hSw
      (try dsimp only at hSw)
      go_simp
      (try with_reducible rfl)
    (try simp only [Act.put, List.setIfInBounds_toArray, List.set_cons_zero, List.set_cons_succ])
    refine takeD (i := 28) (d := 61) (v := ?_) rfl rfl (by kernel_rfl) (by kernel_rfl) (by kernel_rfl) (fun _ _ _ h => h) (Or.inl ⟨by rfl, ?_⟩) (by assumption) ?_
    rotate_left
    · intro w hSw
      (try dsimp only at hSw)
      go_simp
      (try with_reducible rfl)
    (try simp only [Act.put, List.setIfInBounds_toArray, List.set_cons_zero, List.set_cons_succ])
    refine takeD (i := 29) (d := 62) (v := ?_) rfl rfl (by kernel_rfl) (by kernel_rfl) (by kernel_rfl) (fun _ _ _ h => h) (Or.inl ⟨by rfl, ?_⟩) (by assumption) ?_
    rotate_left
    · intro w hSw
      (try dsimp only at hSw)
      go_simp
      (try with_reducible rfl)
    (try simp only [Act.put, List.setIfInBounds_toArray, List.set_cons_zero, List.set_cons_succ])
    refine takeD (i := 30) (d := 63) (v := ?_) rfl rfl (by kernel_rfl) (by kernel_rfl) (by kernel_rfl) (fun _ _ _ h => h) (Or.inl ⟨by rfl, ?_⟩) (by assumption) ?_
    rotate_left
    · intro w hSw
      (try dsimp only at hSw)
      go_simp
      (try with_reducible rfl)
    (try simp only [Act.put, List.setIfInBounds_toArray, List.set_cons_zero, List.set_cons_succ])
    refine takeD (i := 31) (d := 64) (v := ?_) rfl rfl (by kernel_rfl) (by kernel_rfl) (by kernel_rfl) (fun _ _ _ h => h) (Or.inl ⟨by rfl, ?_⟩) (by assumption) ?_
    rotate_left
    · intro w hSw
      (try dsimp only at hSw)
      go_simp
      (try with_reducible rfl)
    (try simp only [Act.put, List.setIfInBounds_toArray, List.set_cons_zero, List.set_cons_succ])
    refine takeD (i := 32) (d := 65) (v := ?_) rfl rfl (by kernel_rfl) (by kernel_rfl) (by kernel_rfl) (fun _ _ _ h => h) (Or.inl ⟨by rfl, ?_⟩) (by assumption) ?_
    rotate_left
    · intro w hSw
      (try dsimp only at hSw)
      go_simp
      (try with_reducible rfl)
    (try simp only [Act.put, List.setIfInBounds_toArray, List.set_cons_zero, List.set_cons_succ])
    refine wpAnyH_ready (rs := [33]) (by kernel_rfl) (by simp) ?_
    refine AllReadyH.cons rfl (fun K hK => ?_) AllReadyH.nil
    go_simp
    go_at_call 12
    (with_reducible refine (HSX.out _).mono ?_)
    rintro e u_5 ⟨rfl, hb5⟩
    have HC5 : Hid (Below V4.heap.size V4 u_5) := Lib.hid (HC4.out.trans (hb5.mono HC4.out.size))
    obtain ⟨x5_0, x5_1, x5_2, x5_3, x5_4, x5_5, x5_6, x5_7, x5_8⟩ := HKx_V4.out.below HC5.out LX.out
    obtain ⟨y5_0, y5_1, y5_2, y5_3, y5_4, y5_5, y5_6, y5_7, y5_8⟩ := HKy_V4.out.below HC5.out LY.out
    obtain ⟨z5_0, z5_1, z5_2, z5_3, z5_4, z5_5, z5_6, z5_7, z5_8⟩ := HKz_V4.out.below HC5.out LZ.out
    obtain ⟨p5_0, p5_1, p5_2, p5_3, p5_4, p5_5, p5_6, p5_7, p5_8⟩ := HKp.out.below HC5.out LP.out
    clear hb5 x4_0 x4_1 x4_2 x4_3 x4_4 x4_5 x4_6 x4_7 x4_8 y4_0 y4_1 y4_2 y4_3 y4_4 y4_5 y4_6 y4_7 y4_8 z4_0 z4_1 z4_2 z4_3 z4_4 z4_5 z4_6 z4_7 z4_8 p4_0 p4_1 p4_2 p4_3 p4_4 p4_5 p4_6 p4_7 p4_8
    refine hK.out _ _ ?_ (fun hHeld2 => ?_)
    · go_keep
    clear hHeld hK K
    have hHeld := hHeld2
    clear hHeld2
    (try simp only [Act.put, List.setIfInBounds_toArray, List.set_cons_zero, List.set_cons_succ])
    refine takeD (i := 34) (d := 67) (v := ?_) rfl rfl (by kernel_rfl) (by kernel_rfl) (by kernel_rfl) (fun _ _ _ h => h) (Or.inl ⟨by rfl, ?_⟩) (by assumption) ?_
    rotate_left
    · intro w hSw
      (try dsimp only at hSw)
      go_simp
      (try with_reducible rfl)
    (try simp only [Act.put, List.setIfInBounds_toArray, List.set_cons_zero, List.set_cons_succ])
    refine takeD (i := 35) (d := 68) (v := ?_) rfl rfl (by kernel_rfl) (by kernel_rfl) (by kernel_rfl) (fun _ _ _ h => h) (Or.inl ⟨by rfl, ?_⟩) (by assumption) ?_
    rotate_left
    · intro w hSw
      (try dsimp only at hSw)
      go_simp
      (try with_reducible rfl)
    (try simp only [Act.put, List.setIfInBounds_toArray, List.set_cons_zero, List.set_cons_succ])
    refine takeD (i := 36) (d := 69) (v := ?_) rfl rfl (by kernel_rfl) (by kernel_rfl) (by kernel_rfl) (fun _ _ _ h => h) (Or.inl ⟨by rfl, ?_⟩) (by assumption) ?_
    rotate_left
    · intro w hSw
      (try dsimp only at hSw)
      go_simp
      (try with_reducible rfl)
    (try simp only [Act.put, List.setIfInBounds_toArray, List.set_cons_zero, List.set_cons_succ])
    refine takeD (i := 37) (d := 70) (v := ?_) rfl rfl (by kernel_rfl) (by kernel_rfl) (by kernel_rfl) (fun _ _ _ h => h) (Or.inl ⟨by rfl, ?_⟩) (by assumption) ?_
    rotate_left
    · intro w hSw
      (try dsimp only at hSw)
      go_simp
      (try with_reducible rfl)
    (try simp only [Act.put, List.setIfInBounds_toArray, List.set_cons_zero, List.set_cons_succ])
    refine takeD (i := 38) (d := 71) (v := ?_) rfl rfl (by kernel_rfl) (by kernel_rfl) (by kernel_rfl) (fun _ _ _ h => h) (Or.inl ⟨by rfl, ?_⟩) (by assumption) ?_
    rotate_left
    · intro w hSw
      (try dsimp only at hSw)
      go_simp
      (try with_reducible rfl)
    (try simp only [Act.put, List.setIfInBounds_toArray, List.set_cons_zero, List.set_cons_succ])
    refine takeD (i := 39) (d := 72) (v := ?_) rfl rfl (by kernel_rfl) (by kernel_rfl) (by kernel_rfl) (fun _ _ _ h => h) (Or.inl ⟨by rfl, ?_⟩) (by assumption) ?_
    rotate_left
    · intro w hSw
      (try dsimp only at hSw)
      go_simp
      (try with_reducible rfl)
    (try simp only [Act.put, List.setIfInBounds_toArray, List.set_cons_zero, List.set_cons_succ])
    refine takeD (i := 40) (d := 73) (v := ?_) rfl rfl (by kernel_rfl) (by kernel_rfl) (by kernel_rfl) (fun _ _ _ h => h) (Or.inl ⟨by rfl, ?_⟩) (by assumption) ?_
    rotate_left
    · intro w hSw
      (try dsimp only at hSw)
      go_simp
      (try with_reducible rfl)
    (try simp only [Act.put, List.setIfInBounds_toArray, List.set_cons_zero, List.set_cons_succ])
    refine takeD (i := 41) (d := 74) (v := ?_) rfl rfl (by kernel_rfl) (by kernel_rfl) (by kernel_rfl) (fun _ _ _ h => h) (Or.inl ⟨by rfl, ?_⟩) (by assumption) ?_
    rotate_left
    · intro w hSw
      (try dsimp only at hSw)
      go_simp
      (try with_reducible rfl)
    (try simp only [Act.put, List.setIfInBounds_toArray, List.set_cons_zero, List.set_cons_succ])
    refine takeD (i := 42) (d := 75) (v := undef) rfl rfl (by kernel_rfl) (by kernel_rfl) (by kernel_rfl) (fun _ _ _ h => h) (Or.inr ⟨by rfl, rfl⟩) (by assumption) ?_
    (try simp only [Act.put, List.setIfInBounds_toArray, List.set_cons_zero, List.set_cons_succ])
    refine takeD (i := 43) (d := 76) (v := undef) rfl rfl (by kernel_rfl) (by kernel_rfl) (by kernel_rfl) (fun _ _ _ h => h) (Or.inr ⟨by rfl, rfl⟩) (by assumption) ?_
    (try simp only [Act.put, List.setIfInBounds_toArray, List.set_cons_zero, List.set_cons_succ])
    refine takeD (i := 44) (d := 77) (v := undef) rfl rfl (by kernel_rfl) (by kernel_rfl) (by kernel_rfl) (fun _ _ _ h => h) (Or.inr ⟨by rfl, rfl⟩) (by assumption) ?_
    (try simp only [Act.put, List.setIfInBounds_toArray, List.set_cons_zero, List.set_cons_succ])
    refine takeD (i := 45) (d := 78) (v := ?_) rfl rfl (by kernel_rfl) (by kernel_rfl) (by kernel_rfl) (fun _ _ _ h => h) (Or.inl ⟨by rfl, ?_⟩) (by assumption) ?_
    rotate_left
    · intro w hSw
      (try dsimp only at hSw)
      go_simp
      (try with_reducible rfl)
    (try simp only [Act.put, List.setIfInBounds_toArray, List.set_cons_zero, List.set_cons_succ])
    refine takeD (i := 46) (d := 79) (v := ?_) rfl rfl (by kernel_rfl) (by kernel_rfl) (by kernel_rfl) (fun _ _ _ h => h) (Or.inl ⟨by rfl, ?_⟩) (by assumption) ?_
    rotate_left
    · intro w hSw
      (try dsimp only at hSw)
      go_simp
      (try with_reducible rfl)
    (try simp only [Act.put, List.setIfInBounds_toArray, List.set_cons_zero, List.set_cons_succ])
    refine wpAnyH_done (by kernel_rfl) ?_ _
    clear hHeld
    have HBU := Lib.hid (HBV4.out.trans (HC5.out.mono HBV4.out.size))
    have HLU : Hid (w2.heap.size < u_5.heap.size) := Lib.hid (by have := HC5.out.size; have := LX.out; omega)
    have HKU : Hid (I9 u_5 w2.heap.size 8 s c) := Lib.hid (HKx_V4.out.below HC5.out LX.out)
    clear y5_0 y5_1 y5_2 y5_3 y5_4 y5_5 y5_6 y5_7 y5_8 z5_0 z5_1 z5_2 z5_3 z5_4 z5_5 z5_6 z5_7 z5_8 p5_0 p5_1 p5_2 p5_3 p5_4 p5_5 p5_6 p5_7 p5_8
    go_wp2_with fail
    (with_reducible refine (HQ.out _).mono ?_)
    rintro e w6 ⟨g, rfl, hg, hgi, hb6⟩
    have HB6 := Lib.hid (HBU.out.trans (hb6.mono HBU.out.size))
    have HK6 : Hid (I9 w6 w2.heap.size 8 s c) := Lib.hid (HKU.out.below hb6 HLU.out)
    have HL6 : Hid (w2.heap.size < w6.heap.size) := Lib.hid (by have := hb6.size; have := HLU.out; omega)
    have HG6 := Lib.hid hg
    have HI6 := Lib.hid hgi
    clear hb6 hg hgi x5_0 x5_1 x5_2 x5_3 x5_4 x5_5 x5_6 x5_7 x5_8
    go_wp2_with fail
    generalize hW : w6.alloc _ = V5
    have HKq : Hid (Q9 V5 w6.heap.size g) := Lib.hid (by rw [← hW]; exact q9_alloc w6 g _)
    have HBV5 : Hid (Below w.heap.size w V5) := Lib.hid (by rw [← hW]; exact HB6.out.alloc HB6.out.size _)
    have HSV5 : Hid (V5.heap.size = w6.heap.size + 1) := Lib.hid (by rw [← hW]; simp)
    have HKx5v : Hid (I9 V5 w2.heap.size 8 s c) := Lib.hid (HK6.out.below (lim := w6.heap.size) (by rw [← hW]; exact (Below.refl _ _).alloc (Nat.le_refl _) _) HL6.out)
    have HIg : Hid (I9 V5 g 8 s c) := Lib.hid (HI6.out.below (lim := w6.heap.size) (by rw [← hW]; exact (Below.refl _ _).alloc (Nat.le_refl _) _) HG6.out)
    clear hW
    have GX : Hid (w2.heap.size < V5.heap.size) := Lib.hid (by have := HL6.out; have := HSV5.out; omega)
    have GQ : Hid (w6.heap.size < V5.heap.size) := Lib.hid (by have := HSV5.out; omega)
    have GG : Hid (g < V5.heap.size) := Lib.hid (by have := HG6.out; have := HSV5.out; omega)
    obtain ⟨x20_0, x20_1, x20_2, x20_3, x20_4, x20_5, x20_6, x20_7, x20_8⟩ := HKx5v.out
    obtain ⟨q20_0, q20_1, q20_2, q20_3, q20_4, q20_5, q20_6, q20_7, q20_8⟩ := HKq.out
    refine wp_region_held_drew (S := (fun w' => w'.cell? ⟨w2.heap.size, 0, none⟩ = some (.int .i64 1) ∧ w'.cell? ⟨w2.heap.size, 1, none⟩ = some (.int .i64 8) ∧ w'.cell? ⟨w2.heap.size, 2, none⟩ = some (.bool s) ∧ w'.cell? ⟨w2.heap.size, 3, none⟩ = some (.bool c) ∧ w'.cell? ⟨w2.heap.size, 4, none⟩ = some (.pointer none) ∧ w'.cell? ⟨w2.heap.size, 5, none⟩ = some (.int .i64 0) ∧ w'.cell? ⟨w2.heap.size, 6, none⟩ = some (.int .i64 0) ∧ w'.cell? ⟨w2.heap.size, 7, none⟩ = some (.slice none 0 0) ∧ w'.cell? ⟨w2.heap.size, 8, none⟩ = some (.pointer none) ∧ w'.cell? ⟨w6.heap.size, 0, none⟩ = some (.int .i64 2) ∧ w'.cell? ⟨w6.heap.size, 1, none⟩ = some (.int .i64 8) ∧ w'.cell? ⟨w6.heap.size, 2, none⟩ = some (.bool false) ∧ w'.cell? ⟨w6.heap.size, 3, none⟩ = some (.bool false) ∧ w'.cell? ⟨w6.heap.size, 4, none⟩ = some (.pointer (some ⟨g, 0, none⟩)) ∧ w'.cell? ⟨w6.heap.size, 5, none⟩ = some (.int .i64 0) ∧ w'.cell? ⟨w6.heap.size, 6, none⟩ = some (.int .i64 0) ∧ w'.cell? ⟨w6.heap.size, 7, none⟩ = some (.slice none 0 0) ∧ w'.cell? ⟨w6.heap.size, 8, none⟩ = some (.pointer none))) (by kernel_rfl) (by go_keep) (fun hHeld => ?_)
    refine takeD (i := 0) (d := 82) (v := ?_) rfl rfl (by kernel_rfl) (by kernel_rfl) (by kernel_rfl) (fun _ _ _ h => h) (Or.inl ⟨by rfl, ?_⟩) (by assumption) ?_
    rotate_left
    · intro w hSw
      (try dsimp only at hSw)
      go_simp
      (try with_reducible rfl)
    (try simp only [Act.put, List.setIfInBounds_toArray, List.set_cons_zero, List.set_cons_succ])
    refine takeD (i := 2) (d := 84) (v := ?_) rfl rfl (by kernel_rfl) (by kernel_rfl) (by kernel_rfl) (fun _ _ _ h => h) (Or.inl ⟨by rfl, ?_⟩) (by assumption) ?_
    rotate_left
    · intro w hSw
      (try dsimp only at hSw)
      go_simp
      (try with_reducible rfl)
    (try simp only [Act.put, List.setIfInBounds_toArray, List.set_cons_zero, List.set_cons_succ])
    refine wpAnyH_ready (rs := [1]) (by kernel_rfl) (by simp) ?_
    refine AllReadyH.cons rfl (fun K hK => ?_) AllReadyH.nil
    go_simp
    (go_at_call 15)
    refine (HPQ.out g _ (by exact GG.out) (HIg.out.below (lim := V5.heap.size) ((Below.refl _ _).drew) GG.out)).mono ?_
    rintro e r_21 ⟨f, rfl, hf, hfi, hb21⟩
    have HD21 : Hid (Below V5.heap.size V5 r_21) := Lib.hid ((Below.refl V5.heap.size V5).drew.trans hb21)
    have HF := Lib.hid hf
    have HFI := Lib.hid hfi
    clear hf hfi
    obtain ⟨x21_0, x21_1, x21_2, x21_3, x21_4, x21_5, x21_6, x21_7, x21_8⟩ := HKx5v.out.below HD21.out GX.out
    obtain ⟨q21_0, q21_1, q21_2, q21_3, q21_4, q21_5, q21_6, q21_7, q21_8⟩ := HKq.out.below HD21.out GQ.out
    clear hb21 x20_0 x20_1 x20_2 x20_3 x20_4 x20_5 x20_6 x20_7 x20_8 q20_0 q20_1 q20_2 q20_3 q20_4 q20_5 q20_6 q20_7 q20_8
    refine hK.out _ _ ?_ (fun hHeld2 => ?_)
    · go_keep
    clear hHeld hK K
    have hHeld := hHeld2
    clear hHeld2
    (try simp only [Act.put, List.setIfInBounds_toArray, List.set_cons_zero, List.set_cons_succ])
    refine wpAnyH_ready (rs := [3]) (by kernel_rfl) (by simp) ?_
    refine AllReadyH.cons rfl (fun K hK => ?_) AllReadyH.nil
    go_simp
    (go_at_call 12)
    refine (HSQ.out f g _ HF.out (Nat.lt_of_lt_of_le GG.out HD21.out.size) HFI.out (HIg.out.below HD21.out GG.out)).mono ?_
    rintro e r_22 ⟨rfl, hb22⟩
    have HD22 : Hid (Below V5.heap.size V5 r_22) := Lib.hid (HD21.out.trans (hb22.mono HD21.out.size))
    obtain ⟨x22_0, x22_1, x22_2, x22_3, x22_4, x22_5, x22_6, x22_7, x22_8⟩ := HKx5v.out.below HD22.out GX.out
    obtain ⟨q22_0, q22_1, q22_2, q22_3, q22_4, q22_5, q22_6, q22_7, q22_8⟩ := HKq.out.below HD22.out GQ.out
    clear hb22 x21_0 x21_1 x21_2 x21_3 x21_4 x21_5 x21_6 x21_7 x21_8 q21_0 q21_1 q21_2 q21_3 q21_4 q21_5 q21_6 q21_7 q21_8
    refine hK.out _ _ ?_ (fun hHeld2 => ?_)
    · go_keep
    clear hHeld hK K
    have hHeld := hHeld2
    clear hHeld2
    (try simp only [Act.put, List.setIfInBounds_toArray, List.set_cons_zero, List.set_cons_succ])
    refine takeD (i := 4) (d := 86) (v := ?_) rfl rfl (by kernel_rfl) (by kernel_rfl) (by kernel_rfl) (fun _ _ _ h => h) (Or.inl ⟨by rfl, ?_⟩) (by assumption) ?_
    rotate_left
    · intro w hSw
      (try dsimp only at hSw)
      go_simp
      (try with_reducible rfl)
    (try simp only [Act.put, List.setIfInBounds_toArray, List.set_cons_zero, List.set_cons_succ])
    refine takeD (i := 5) (d := 87) (v := ?_) rfl rfl (by kernel_rfl) (by kernel_rfl) (by kernel_rfl) (fun _ _ _ h => h) (Or.inl ⟨by rfl, ?_⟩) (by assumption) ?_
    rotate_left
    · intro w hSw
      (try dsimp only at hSw)
      go_simp
      (try with_reducible rfl)
    (try simp only [Act.put, List.setIfInBounds_toArray, List.set_cons_zero, List.set_cons_succ])
    refine wpAnyH_ready (rs := [6]) (by kernel_rfl) (by simp) ?_
    refine AllReadyH.cons rfl (fun K hK => ?_) AllReadyH.nil
    go_simp
    (go_at_call 18)
    refine (HO.out _).mono ?_
    rintro e r_23 ⟨rfl, hb23⟩
    have HD23 : Hid (Below V5.heap.size V5 r_23) := Lib.hid (HD22.out.trans (hb23.mono HD22.out.size))
    obtain ⟨x23_0, x23_1, x23_2, x23_3, x23_4, x23_5, x23_6, x23_7, x23_8⟩ := HKx5v.out.below HD23.out GX.out
    obtain ⟨q23_0, q23_1, q23_2, q23_3, q23_4, q23_5, q23_6, q23_7, q23_8⟩ := HKq.out.below HD23.out GQ.out
    clear hb23 x22_0 x22_1 x22_2 x22_3 x22_4 x22_5 x22_6 x22_7 x22_8 q22_0 q22_1 q22_2 q22_3 q22_4 q22_5 q22_6 q22_7 q22_8
    refine hK.out _ _ ?_ (fun hHeld2 => ?_)
    · go_keep
    clear hHeld hK K
    have hHeld := hHeld2
    clear hHeld2
    (try simp only [Act.put, List.setIfInBounds_toArray, List.set_cons_zero, List.set_cons_succ])
    refine wpAnyH_ready (rs := [7]) (by kernel_rfl) (by simp) ?_
    refine AllReadyH.cons rfl (fun K hK => ?_) AllReadyH.nil
    go_simp
    (try go_wp2_with fail)
    refine hK.out _ _ ?_ (fun hHeld2 => ?_)
    · go_keep
    clear hHeld hK K
    have hHeld := hHeld2
    clear hHeld2
    (try simp only [Act.put, List.setIfInBounds_toArray, List.set_cons_zero, List.set_cons_succ])
    refine takeD (i := 8) (d := 90) (v := ?_) rfl rfl (by kernel_rfl) (by kernel_rfl) (by kernel_rfl) (fun _ _ _ h => h) (Or.inl ⟨by rfl, ?_⟩) (by assumption) ?_
    rotate_left
    · intro w hSw
      (try dsimp only at hSw)
      go_simp
      (try with_reducible rfl)
    (try simp only [Act.put, List.setIfInBounds_toArray, List.set_cons_zero, List.set_cons_succ])
    refine takeD (i := 9) (d := 91) (v := ?_) rfl rfl (by kernel_rfl) (by kernel_rfl) (by kernel_rfl) (fun _ _ _ h => h) (Or.inl ⟨by rfl, ?_⟩) (by assumption) ?_
    rotate_left
    · intro w hSw
      (try dsimp only at hSw)
      go_simp
      (try with_reducible rfl)
    (try simp only [Act.put, List.setIfInBounds_toArray, List.set_cons_zero, List.set_cons_succ])
    refine takeD (i := 10) (d := 92) (v := ?_) rfl rfl (by kernel_rfl) (by kernel_rfl) (by kernel_rfl) (fun _ _ _ h => h) (Or.inl ⟨by rfl, ?_⟩) (by assumption) ?_
    rotate_left
    · intro w hSw
      (try dsimp only at hSw)
      go_simp
      (try with_reducible rfl)
    (try simp only [Act.put, List.setIfInBounds_toArray, List.set_cons_zero, List.set_cons_succ])
    refine takeD (i := 11) (d := 93) (v := ?_) rfl rfl (by kernel_rfl) (by kernel_rfl) (by kernel_rfl) (fun _ _ _ h => h) (Or.inl ⟨by rfl, ?_⟩) (by assumption) ?_
    rotate_left
    · intro w hSw
      (try dsimp only at hSw)
      go_simp
      (try with_reducible rfl)
    (try simp only [Act.put, List.setIfInBounds_toArray, List.set_cons_zero, List.set_cons_succ])
    refine wpAnyH_ready (rs := [12]) (by kernel_rfl) (by simp) ?_
    refine AllReadyH.cons rfl (fun K hK => ?_) AllReadyH.nil
    go_simp
    (go_at_call 19)
    refine (HE.out _).mono ?_
    rintro e r_24 ⟨rfl, hb24⟩
    have HD24 : Hid (Below V5.heap.size V5 r_24) := Lib.hid (HD23.out.trans (hb24.mono HD23.out.size))
    obtain ⟨x24_0, x24_1, x24_2, x24_3, x24_4, x24_5, x24_6, x24_7, x24_8⟩ := HKx5v.out.below HD24.out GX.out
    obtain ⟨q24_0, q24_1, q24_2, q24_3, q24_4, q24_5, q24_6, q24_7, q24_8⟩ := HKq.out.below HD24.out GQ.out
    clear hb24 x23_0 x23_1 x23_2 x23_3 x23_4 x23_5 x23_6 x23_7 x23_8 q23_0 q23_1 q23_2 q23_3 q23_4 q23_5 q23_6 q23_7 q23_8
    refine hK.out _ _ ?_ (fun hHeld2 => ?_)
    · go_keep
    clear hHeld hK K
    have hHeld := hHeld2
    clear hHeld2
    (try simp only [Act.put, List.setIfInBounds_toArray, List.set_cons_zero, List.set_cons_succ])
    refine wpAnyH_ready (rs := [13]) (by kernel_rfl) (by simp) ?_
    refine AllReadyH.cons rfl (fun K hK => ?_) AllReadyH.nil
    go_simp
    (try go_wp2_with fail)
    refine hK.out _ _ ?_ (fun hHeld2 => ?_)
    · go_keep
    clear hHeld hK K
    have hHeld := hHeld2
    clear hHeld2
    (try simp only [Act.put, List.setIfInBounds_toArray, List.set_cons_zero, List.set_cons_succ])
    refine takeD (i := 14) (d := 96) (v := ?_) rfl rfl (by kernel_rfl) (by kernel_rfl) (by kernel_rfl) (fun _ _ _ h => h) (Or.inl ⟨by rfl, ?_⟩) (by assumption) ?_
    rotate_left
    · intro w hSw
      (try dsimp only at hSw)
      go_simp
      (try with_reducible rfl)
    (try simp only [Act.put, List.setIfInBounds_toArray, List.set_cons_zero, List.set_cons_succ])
    refine takeD (i := 15) (d := 97) (v := ?_) rfl rfl (by kernel_rfl) (by kernel_rfl) (by kernel_rfl) (fun _ _ _ h => h) (Or.inl ⟨by rfl, ?_⟩) (by assumption) ?_
    rotate_left
    · intro w hSw
      (try dsimp only at hSw)
      go_simp
      (try with_reducible rfl)
    (try simp only [Act.put, List.setIfInBounds_toArray, List.set_cons_zero, List.set_cons_succ])
    refine takeD (i := 16) (d := 98) (v := ?_) rfl rfl (by kernel_rfl) (by kernel_rfl) (by kernel_rfl) (fun _ _ _ h => h) (Or.inl ⟨by rfl, ?_⟩) (by assumption) ?_
    rotate_left
    · intro w hSw
      (try dsimp only at hSw)
      go_simp
      (try with_reducible rfl)
    (try simp only [Act.put, List.setIfInBounds_toArray, List.set_cons_zero, List.set_cons_succ])
    refine takeD (i := 22) (d := 104) (v := ?_) rfl rfl (by kernel_rfl) (by kernel_rfl) (by kernel_rfl) (fun _ _ _ h => h) (Or.inl ⟨by rfl, ?_⟩) (by assumption) ?_
    rotate_left
    · intro w hSw
      (try dsimp only at hSw)
      go_simp
      (try with_reducible rfl)
    (try simp only [Act.put, List.setIfInBounds_toArray, List.set_cons_zero, List.set_cons_succ])
    refine takeD (i := 23) (d := 105) (v := ?_) rfl rfl (by kernel_rfl) (by kernel_rfl) (by kernel_rfl) (fun _ _ _ h => h) (Or.inl ⟨by rfl, ?_⟩) (by assumption) ?_
    rotate_left
    · intro w hSw
      (try dsimp only at hSw)
      go_simp
      (try with_reducible rfl)
    (try simp only [Act.put, List.setIfInBounds_toArray, List.set_cons_zero, List.set_cons_succ])
    refine wpAnyH_ready (rs := [17]) (by kernel_rfl) (by simp) ?_
    refine AllReadyH.cons rfl (fun K hK => ?_) AllReadyH.nil
    go_simp
    (go_at_call 19)
    refine (HEQ.out g _ (Nat.lt_of_lt_of_le GG.out HD24.out.size) (HIg.out.below HD24.out GG.out)).mono ?_
    rintro e r_25 ⟨k2, rfl, hf2, hfi2, hb25⟩
    have HD25 : Hid (Below V5.heap.size V5 r_25) := Lib.hid (HD24.out.trans (hb25.mono HD24.out.size))
    obtain ⟨kk0, kk1, kk2, kk3, kk4, kk5, kk6, kk7, kk8⟩ := hfi2
    obtain ⟨x25_0, x25_1, x25_2, x25_3, x25_4, x25_5, x25_6, x25_7, x25_8⟩ := HKx5v.out.below HD25.out GX.out
    obtain ⟨q25_0, q25_1, q25_2, q25_3, q25_4, q25_5, q25_6, q25_7, q25_8⟩ := HKq.out.below HD25.out GQ.out
    clear hb25 x24_0 x24_1 x24_2 x24_3 x24_4 x24_5 x24_6 x24_7 x24_8 q24_0 q24_1 q24_2 q24_3 q24_4 q24_5 q24_6 q24_7 q24_8
    refine hK.out _ _ ?_ (fun hHeld2 => ?_)
    · go_keep
    clear hHeld hK K
    have hHeld := hHeld2
    clear hHeld2
    (try simp only [Act.put, List.setIfInBounds_toArray, List.set_cons_zero, List.set_cons_succ])
    refine wpAnyH_ready (rs := [18]) (by kernel_rfl) (by simp) ?_
    refine AllReadyH.cons rfl (fun K hK => ?_) AllReadyH.nil
    go_simp
    (try go_wp2_with fail)
    refine hK.out _ _ ?_ (fun hHeld2 => ?_)
    · go_keep
    clear hHeld hK K
    have hHeld := hHeld2
    clear hHeld2
    (try simp only [Act.put, List.setIfInBounds_toArray, List.set_cons_zero, List.set_cons_succ])
    refine takeD (i := 19) (d := 101) (v := ?_) rfl rfl (by kernel_rfl) (by kernel_rfl) (by kernel_rfl) (fun _ _ _ h => h) (Or.inl ⟨by rfl, ?_⟩) (by assumption) ?_
    rotate_left
    · intro w hSw
      (try dsimp only at hSw)
      go_simp
      (try with_reducible rfl)
    (try simp only [Act.put, List.setIfInBounds_toArray, List.set_cons_zero, List.set_cons_succ])
    refine takeD (i := 20) (d := 102) (v := ?_) rfl rfl (by kernel_rfl) (by kernel_rfl) (by kernel_rfl) (fun _ _ _ h => h) (Or.inl ⟨by rfl, ?_⟩) (by assumption) ?_
    rotate_left
    · intro w hSw
      (try dsimp only at hSw)
      go_simp
      (try with_reducible rfl)
    (try simp only [Act.put, List.setIfInBounds_toArray, List.set_cons_zero, List.set_cons_succ])
    refine wpAnyH_ready (rs := [21]) (by kernel_rfl) (by simp) ?_
    refine AllReadyH.cons rfl (fun K hK => ?_) AllReadyH.nil
    go_simp
    (try go_wp2_with fail)
    refine hK.out _ _ ?_ (fun hHeld2 => ?_)
    · go_keep
    clear hHeld hK K
    have hHeld := hHeld2
    clear hHeld2
    (try simp only [Act.put, List.setIfInBounds_toArray, List.set_cons_zero, List.set_cons_succ])
    refine takeD (i := 24) (d := 106) (v := ?_) rfl rfl (by kernel_rfl) (by kernel_rfl) (by kernel_rfl) (fun _ _ _ h => h) (Or.inl ⟨by rfl, ?_⟩) (by assumption) ?_
    rotate_left
    · intro w hSw
      (try dsimp only at hSw)
      go_simp
      (try with_reducible rfl)
    (try simp only [Act.put, List.setIfInBounds_toArray, List.set_cons_zero, List.set_cons_succ])
    refine takeD (i := 25) (d := 107) (v := ?_) rfl rfl (by kernel_rfl) (by kernel_rfl) (by kernel_rfl) (fun _ _ _ h => h) (Or.inl ⟨by rfl, ?_⟩) (by assumption) ?_
    rotate_left
    · intro w hSw
      (try dsimp only at hSw)
      go_simp
      (try with_reducible rfl)
    (try simp only [Act.put, List.setIfInBounds_toArray, List.set_cons_zero, List.set_cons_succ])
    refine takeD (i := 26) (d := 4) (v := ?_) rfl rfl (by kernel_rfl) (by kernel_rfl) (by kernel_rfl) (fun _ _ _ h => h) (Or.inl ⟨by rfl, ?_⟩) (by assumption) ?_
    rotate_left
    · intro w hSw
      (try dsimp only at hSw)
      go_simp
      (try with_reducible rfl)
    (try simp only [Act.put, List.setIfInBounds_toArray, List.set_cons_zero, List.set_cons_succ])
    refine wpAnyH_done (by kernel_rfl) ?_ _
    clear hHeld
    go_wp2_with fail
    go_ret
    exact ⟨rfl, HBV5.out.trans (HD25.out.mono HBV5.out.size)⟩

end Go.Proofs.Ytilkjanlacfcgaa
