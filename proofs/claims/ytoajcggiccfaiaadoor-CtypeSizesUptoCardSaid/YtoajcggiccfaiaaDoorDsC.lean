import Derived.Test.YtoajcggiccfaiaaDoorDsB
namespace Go.Proofs.YtoajcggiccfaiaaDoor
open Go Go.RowKit
set_option linter.unusedVariables false
set_option linter.unusedSimpArgs false

theorem ba_add (a b : ByteArray) : (a ++ b).data.toList = a.data.toList ++ b.data.toList := by
  simp

theorem writeL (b : Nat) (l ls : List UInt8) (s : ByteArray) (hs : s.data.toList = ls) (hl : l.length + ls.length ≤ 1000000000) (w : World) (hbw : b < w.heap.size) (h : Bld b l w) :
    Calls Tryd.prog 39 #[.pointer (some ⟨b, 0, none⟩), .string s] w fun e w' => e = .returned (.tuple #[.int .i64 s.size, .nilIface]) ∧ Bld b (l ++ ls) w' ∧ Below b w w' ∧ Kept b w w' := by
  subst hs
  exact writeString_any b l s (by simpa using hl) w hbw h

/-- The text of a type. -/
def showL (n : Nat) (NM : Nat → ByteArray) : Ty → List UInt8
  | .void => [118, 111, 105, 100]
  | .int k sg sc => intL k sg sc
  | .ptr t => showL n NM t ++ [42]
  | .arr t m => showL n NM t ++ ([91] ++ (Lib.decDigits m.toNat ++ [93]))
  | .st k => [115, 116, 114, 117, 99, 116, 32] ++ (if 0 ≤ k ∧ k < n then (NM k.toNat).data.toList else [])

/-- No array is longer than 99. -/
def Ok99 : Ty → Prop
  | .ptr t => Ok99 t
  | .arr t m => (0 ≤ m ∧ m ≤ 99) ∧ Ok99 t
  | _ => True
def WRes (b : Nat) (l : List UInt8) (w : World) (e : Ending) (w' : World) : Prop := e = .returned (.tuple #[]) ∧ Bld b l w' ∧ Below b w w' ∧ Kept b w w'

theorem write_void (tab : Value) (b : Nat) (l : List UInt8) (w : World) (h : Bld b l w) (hb : b < w.heap.size) (hl : l.length + 4 ≤ 1000000000) :
    Calls Tryd.prog 30 #[tab, .pointer (some ⟨b, 0, none⟩), tyV .void none] w (WRes b (l ++ [118, 111, 105, 100]) w) := by
  rw [show tyV .void none = .agg #[.int .i64 0, .int .i64 0, .bool false, .bool false, .pointer none, .int .i64 0, .int .i64 0, .slice none 0 0, .pointer none] from rfl]
  have HB := Lib.hid h
  clear h
  go_enter Tryd.func30, Tryd.ntmps30
  go_wp2_with fail
  refine (writeL b l [118, 111, 105, 100] _ rfl (by simpa using hl) _ (by simp; omega) (HB.out.below ((Below.refl _ _).alloc (Nat.le_refl _) _))).mono ?_
  rintro e w1 ⟨rfl, h1, h2, h3⟩
  have H1 := Lib.hid h1
  have H2 := Lib.hid h2
  have H3 := Lib.hid h3
  clear h1 h2 h3
  go_wp2_with fail
  go_end0
  exact ⟨rfl, H1.out, (((Below.refl _ _).alloc (Nat.le_refl _) _).mono (by omega)).trans H2.out, (kept_below ((Below.refl _ _).alloc (Nat.le_refl _) _)).trans H3.out⟩

theorem write_int (tab : Value) (k : Int) (sg sc : Bool) (b : Nat) (l : List UInt8) (w : World) (h : Bld b l w) (hb : b < w.heap.size) (hl : l.length + (intL k sg sc).length ≤ 1000000000) :
    Calls Tryd.prog 30 #[tab, .pointer (some ⟨b, 0, none⟩), tyV (.int k sg sc) none] w (WRes b (l ++ intL k sg sc) w) := by
  have HI := Lib.hid (fun w => intText_any k sg sc w)
  rw [show tyV (.int k sg sc) none = .agg #[.int .i64 1, .int .i64 k, .bool sg, .bool sc, .pointer none, .int .i64 0, .int .i64 0, .slice none 0 0, .pointer none] from rfl] at *
  have HB := Lib.hid h
  clear h
  go_enter Tryd.func30, Tryd.ntmps30
  go_wp2_with (go_at_call 40
               (with_reducible refine (HI.out _).mono ?_)
               rintro e w0 ⟨rfl, hb0⟩
               have HB0 := Lib.hid (((Below.refl w.heap.size w).alloc (Nat.le_refl _) _).trans (hb0.mono (by simp)))
               clear hb0)
  have hbz := HB0.out.size
  refine (writeL b l (intL k sg sc) _ (by simp) hl _ (by omega) (HB.out.below HB0.out)).mono ?_
  rintro e w1 ⟨rfl, h1, h2, h3⟩
  have H1 := Lib.hid h1
  have H2 := Lib.hid h2
  have H3 := Lib.hid h3
  clear h1 h2 h3
  go_wp2_with fail
  go_end0
  exact ⟨rfl, H1.out, (HB0.out.mono (by omega)).trans H2.out, (kept_below HB0.out).trans H3.out⟩

section
variable (tb rb n rc : Nat) (hn : n ≤ 1000000) (a : Option Addr) (NM : Nat → ByteArray) (FA : Nat → Option Addr) (FN FC : Nat → Nat) (SZ AL : Nat → Int)
include hn

omit hn in
theorem write_ptr (t : Ty) (el : Option Addr) (b : Nat) (l : List UInt8) (w : World) (htb : tb < w.heap.size) (hT : TabN w tb rb n rc a NM FA FN FC SZ AL) (he : ElAt w 0 w.heap.size (.ptr t) el) (h : Bld b l w) (hb : b < w.heap.size) (hl : l.length + (showL n NM t).length + 1 ≤ 1000000000)
    (ih : ∀ (el : Option Addr) (w : World), tb < w.heap.size → TabN w tb rb n rc a NM FA FN FC SZ AL → ElAt w 0 w.heap.size t el → Bld b l w → b < w.heap.size → Calls Tryd.prog 30 #[.pointer (some ⟨tb, 0, none⟩), .pointer (some ⟨b, 0, none⟩), tyV t el] w (WRes b (l ++ showL n NM t) w)) :
    Calls Tryd.prog 30 #[.pointer (some ⟨tb, 0, none⟩), .pointer (some ⟨b, 0, none⟩), tyV (.ptr t) el] w (WRes b (l ++ showL n NM (.ptr t)) w) := by
  obtain ⟨q, e0, rfl, hq0, hq1, hc, he'⟩ := he
  have HI := Lib.hid ih
  have HT := Lib.hid hT
  have HC := Lib.hid hc
  have HE := Lib.hid he'
  have HB := Lib.hid h
  clear ih hT hc he' h
  rw [tyV_ptr]
  go_enter Tryd.func30, Tryd.ntmps30
  go_wp2_with (go_at_call 26
               (with_reducible refine (target_any q t e0 _ (HC.out.below ((Below.refl w.heap.size w).alloc (Nat.le_refl _) _) hq1)).mono ?_)
               rintro e w0 ⟨rfl, hb0⟩
               have HB0 := Lib.hid (((Below.refl w.heap.size w).alloc (Nat.le_refl _) _).trans (hb0.mono (by simp)))
               clear hb0)
  have hbz := HB0.out.size
  refine (HI.out e0 _ (by omega) (HT.out.below htb HB0.out) ((HE.out.below HB0.out (Nat.le_refl _)).mono (Nat.le_refl _) hbz) (HB.out.below HB0.out) (by omega)).mono ?_
  rintro e w1 ⟨rfl, h1, h2, h3⟩
  have H1 := Lib.hid h1
  have H2 := Lib.hid h2
  have H3 := Lib.hid h3
  clear h1 h2 h3
  go_wp2_with fail
  have hbz1 := H2.out.size
  refine (writeL b (l ++ showL n NM t) [42] _ rfl (by simp; omega) _ (by omega) H1.out).mono ?_
  rintro e w2 ⟨rfl, h1, h2, h3⟩
  have K1 := Lib.hid h1
  have K2 := Lib.hid h2
  have K3 := Lib.hid h3
  clear h1 h2 h3
  go_wp2_with fail
  go_end0
  exact ⟨rfl, by have := K1.out; rw [List.append_assoc] at this; exact this, ((HB0.out.mono (by omega)).trans H2.out).trans K2.out, ((kept_below HB0.out).trans H3.out).trans K3.out⟩

omit hn in
theorem write_arr (t : Ty) (m : Nat) (hm : m < 100) (el : Option Addr) (b : Nat) (l : List UInt8) (w : World) (htb : tb < w.heap.size) (hT : TabN w tb rb n rc a NM FA FN FC SZ AL) (he : ElAt w 0 w.heap.size (.arr t m) el) (h : Bld b l w) (hb : b < w.heap.size) (hl : l.length + (showL n NM t).length + (Lib.decDigits m).length + 2 ≤ 1000000000)
    (ih : ∀ (el : Option Addr) (w : World), tb < w.heap.size → TabN w tb rb n rc a NM FA FN FC SZ AL → ElAt w 0 w.heap.size t el → Bld b l w → b < w.heap.size → Calls Tryd.prog 30 #[.pointer (some ⟨tb, 0, none⟩), .pointer (some ⟨b, 0, none⟩), tyV t el] w (WRes b (l ++ showL n NM t) w)) :
    Calls Tryd.prog 30 #[.pointer (some ⟨tb, 0, none⟩), .pointer (some ⟨b, 0, none⟩), tyV (.arr t m) el] w (WRes b (l ++ showL n NM (.arr t m)) w) := by
  obtain ⟨q, e0, rfl, hq0, hq1, hc, he'⟩ := he
  have HI := Lib.hid ih
  have HT := Lib.hid hT
  have HC := Lib.hid hc
  have HE := Lib.hid he'
  have HB := Lib.hid h
  clear ih hT hc he' h
  rw [tyV_arr]
  obtain ⟨X, hX⟩ : ∃ X, X = w.heap.size := ⟨_, rfl⟩
  have hxb : some X ≠ some b := fun e => by have := Option.some.inj e; omega
  have hblk : (w.alloc (.cells #[.int .i64 3, .int .i64 0, .bool false, .bool false, .pointer (some ⟨q, 0, none⟩), .int .i64 m, .int .i64 0, .slice none 0 0, .pointer none] 34)).heap[X]? = some (.cells #[.int .i64 3, .int .i64 0, .bool false, .bool false, .pointer (some ⟨q, 0, none⟩), .int .i64 m, .int .i64 0, .slice none 0 0, .pointer none] 34 (0, 0)) := by
    rw [hX]; exact heap_alloc_new w _
  have HBLK := Lib.hid hblk
  have HX := Lib.hid hX
  clear hblk
  go_enter Tryd.func30, Tryd.ntmps30
  go_wp2_with (go_at_call 26
               (with_reducible refine (target_any q t e0 _ (HC.out.below ((Below.refl w.heap.size w).alloc (Nat.le_refl _) _) hq1)).mono ?_)
               rintro e w0 ⟨rfl, hb0⟩
               have HB0 := Lib.hid (((Below.refl w.heap.size w).alloc (Nat.le_refl _) _).trans (hb0.mono (by simp)))
               have HBX := Lib.hid ((hb0.block X (by rw [HX.out]; simp)).trans HBLK.out)
               clear hb0)
  have hbz := HB0.out.size
  refine (HI.out e0 _ (by omega) (HT.out.below htb HB0.out) ((HE.out.below HB0.out (Nat.le_refl _)).mono (Nat.le_refl _) hbz) (HB.out.below HB0.out) (by omega)).mono ?_
  rintro e w1 ⟨rfl, h1, h2, h3⟩
  have p5 : w1.cell? ⟨w.heap.size, 5, none⟩ = some (.int .i64 m) := by
    rw [← HX.out]
    rw [Lib.cell_of_heap (h3 X _ HBX.out hxb (fun c fz e => by cases e))]; rfl
  have H1 := Lib.hid h1
  have H2 := Lib.hid h2
  have H3 := Lib.hid h3
  clear h1 h2 h3
  go_wp2_with (go_at_call 41
               (with_reducible refine (Tryd.strconv_Itoa_small m hm _).mono ?_)
               rintro e w' ⟨rfl, rfl⟩)
  have hbz1 := H2.out.size
  refine (writeL b (l ++ showL n NM t) ([91] ++ (Lib.decDigits m ++ [93])) _ (by simp [ba_add]) (by simp; omega) _ (by omega) H1.out).mono ?_
  rintro e w2 ⟨rfl, h1, h2, h3⟩
  have K1 := Lib.hid h1
  have K2 := Lib.hid h2
  have K3 := Lib.hid h3
  clear h1 h2 h3
  go_wp2_with fail
  go_end0
  exact ⟨rfl, by have := K1.out; rw [List.append_assoc] at this; exact this, ((HB0.out.mono (by omega)).trans H2.out).trans K2.out, ((kept_below HB0.out).trans H3.out).trans K3.out⟩

set_option maxHeartbeats 1000000 in
theorem write_st (k : Int) (b : Nat) (l : List UInt8) (w : World) (htb : tb < w.heap.size) (hT : TabN w tb rb n rc a NM FA FN FC SZ AL) (h : Bld b l w) (hb : b < w.heap.size) (hl : l.length + (showL n NM (.st k)).length ≤ 1000000000) :
    Calls Tryd.prog 30 #[.pointer (some ⟨tb, 0, none⟩), .pointer (some ⟨b, 0, none⟩), tyV (.st k) none] w (WRes b (l ++ showL n NM (.st k)) w) := by
  have HC : Hid (∀ w, TabN w tb rb n rc a NM FA FN FC SZ AL → Calls Tryd.prog 27 #[.pointer (some ⟨tb, 0, none⟩), .int .i64 k] w fun e w' => ∃ nm fa fn fc sz al ok, e = .returned (.tuple #[.agg #[.string nm, .slice fa fn fc, .int .i64 sz, .int .i64 al], .bool ok]) ∧ Below w.heap.size w w' ∧ showL n NM (.st k) = [115, 116, 114, 117, 99, 116, 32] ++ nm.data.toList) := by
    refine Lib.hid fun w h => ?_
    by_cases hk : 0 ≤ k ∧ k < n
    · obtain ⟨j, rfl⟩ : ∃ j : Nat, k = j := ⟨k.toNat, by omega⟩
      refine (record_in tb rb n rc hn a NM FA FN FC SZ AL j (by omega) w h).mono ?_
      rintro e w' ⟨rfl, hb⟩
      exact ⟨_, _, _, _, _, _, _, rfl, hb, by unfold showL; rw [if_pos hk, Int.toNat_natCast]⟩
    · refine (record_out tb rb n rc hn a NM FA FN FC SZ AL k (by omega) w h).mono ?_
      rintro e w' ⟨rfl, hb⟩
      exact ⟨_, _, _, _, _, _, _, rfl, hb, by unfold showL; rw [if_neg hk]⟩
  have HT := Lib.hid hT
  have HB := Lib.hid h
  clear hT h
  rw [show tyV (.st k) none = .agg #[.int .i64 4, .int .i64 0, .bool false, .bool false, .pointer none, .int .i64 0, .int .i64 k, .slice none 0 0, .pointer none] from rfl]
  generalize hs : showL n NM (.st k) = sl at HC hl ⊢
  clear hs
  go_enter Tryd.func30, Tryd.ntmps30
  go_wp2_with fail
  refine (HC.out _ (HT.out.below htb ((Below.refl w.heap.size w).alloc (Nat.le_refl _) _))).mono ?_
  rintro e w0 ⟨nm, fa, fn, fc, sz, al, ok, rfl, hb0, hsl⟩
  have HB0 := Lib.hid (((Below.refl w.heap.size w).alloc (Nat.le_refl _) _).trans (hb0.mono (by simp)))
  have HSL := Lib.hid hsl
  have hnm : nm.size ≤ 1000000000 := by
    have h1 : nm.data.toList.length = nm.size := by simp
    rw [hsl, List.length_append] at hl; omega
  clear hb0 hsl
  go_wp2_with fail
  have hbz := HB0.out.size
  have hbA := HB0.out.alloc hbz (.cells #[.string nm, .slice fa fn fc, .int .i64 sz, .int .i64 al] 73)
  have HBA := Lib.hid hbA
  clear hbA
  with_reducible refine (writeL b l sl _ ?hs hl _ (by simp; omega) (HB.out.below HBA.out)).mono ?_
  case hs => rw [HSL.out, ba_add]
  rintro e w2 ⟨rfl, h1, h2, h3⟩
  have K1 := Lib.hid h1
  have K2 := Lib.hid h2
  have K3 := Lib.hid h3
  clear h1 h2 h3
  go_wp2_with fail
  go_end0
  exact ⟨rfl, K1.out, (HBA.out.mono (by omega)).trans K2.out, (kept_below HBA.out).trans K3.out⟩

theorem write_any (b : Nat) (t : Ty) : Ok99 t → ∀ (l : List UInt8) (el : Option Addr) (w : World), tb < w.heap.size → TabN w tb rb n rc a NM FA FN FC SZ AL → ElAt w 0 w.heap.size t el → Bld b l w → b < w.heap.size → l.length + (showL n NM t).length ≤ 1000000000 →
    Calls Tryd.prog 30 #[.pointer (some ⟨tb, 0, none⟩), .pointer (some ⟨b, 0, none⟩), tyV t el] w (WRes b (l ++ showL n NM t) w) := by
  induction t with
  | void => intro _ l el w h1 h2 h3 h4 h5 h6; obtain rfl : el = none := h3; exact write_void _ b l w h4 h5 h6
  | int k sg sc => intro _ l el w h1 h2 h3 h4 h5 h6; obtain rfl : el = none := h3; exact write_int _ k sg sc b l w h4 h5 h6
  | ptr t ih =>
    intro ok l el w h1 h2 h3 h4 h5 h6
    have h7 : l.length + (showL n NM t).length + 1 ≤ 1000000000 := by simpa [showL, Nat.add_assoc] using h6
    exact write_ptr tb rb n rc a NM FA FN FC SZ AL t el b l w h1 h2 h3 h4 h5 h7 (fun el w k1 k2 k3 k4 k5 => ih ok l el w k1 k2 k3 k4 k5 (by omega))
  | arr t m ih =>
    intro ok l el w h1 h2 h3 h4 h5 h6
    obtain ⟨⟨m0, m1⟩, ok⟩ := ok
    obtain ⟨j, rfl⟩ : ∃ j : Nat, m = j := ⟨m.toNat, by omega⟩
    have h7 : l.length + (showL n NM t).length + (Lib.decDigits j).length + 2 ≤ 1000000000 := by
      simp [showL] at h6; omega
    exact write_arr tb rb n rc a NM FA FN FC SZ AL t j (by omega) el b l w h1 h2 h3 h4 h5 h7 (fun el w k1 k2 k3 k4 k5 => ih ok l el w k1 k2 k3 k4 k5 (by omega))
  | st k => intro _ l el w h1 h2 h3 h4 h5 h6; obtain rfl : el = none := h3; exact write_st tb rb n rc hn a NM FA FN FC SZ AL k b l w h1 h2 h4 h5 h6
end
end Go.Proofs.YtoajcggiccfaiaaDoor
