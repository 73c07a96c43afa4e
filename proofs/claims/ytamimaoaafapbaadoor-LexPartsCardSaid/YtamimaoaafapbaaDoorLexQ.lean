import Derived.Test.YtamimaoaafapbaaDoorLexP
import Derived.Lib.AtoiErrMem
import Derived.Lib.ParseIntB
namespace Go.Proofs.YtamimaoaafapbaaDoor
open Go Go.RowKit

/-- What a call is told of the package-level variables that it comes to. -/
structure G (w : World) : Prop where
  maxLen : ∃ m, w.cell? ⟨0, 0, none⟩ = some (.int .i64 m)
  syn : ∃ te pe, w.cell? ⟨1, 0, none⟩ = some (.iface te pe)
  rng : ∃ te pe, w.cell? ⟨2, 0, none⟩ = some (.iface te pe)
theorem cell_below {B : Nat} {w w' : World} (hb : Below B w w') (hB : w.heap.size ≤ B) {a : Addr} {v : Value} (hc : w.cell? a = some v) : w'.cell? a = some v :=
  (hb.cell (Nat.lt_of_lt_of_le (World.block_lt_of_cell? w a hc) hB)).trans hc
theorem G.below {w w' : World} (h : G w) (hb : Below w.heap.size w w') : G w' := by
  obtain ⟨⟨m, hm⟩, ⟨te, pe, hs⟩, ⟨te', pe', hr⟩⟩ := h
  exact ⟨⟨m, cell_below hb (Nat.le_refl _) hm⟩, ⟨te, pe, cell_below hb (Nat.le_refl _) hs⟩, ⟨te', pe', cell_below hb (Nat.le_refl _) hr⟩⟩

theorem parseHex_ok (t : ByteArray) (v : Nat) (h : parseU 0 t.data.toList = some v) (hne : t.size ≠ 0) (hmax : t.size ≤ 9223372036854775806) (hall : ∀ c ∈ t.data.toList, hexB c.toNat = true) (w : World) :
    Calls Tryd.prog 41 #[.string t, .int .i64 16, .int .i64 64] w fun e w' => e = .returned (.tuple #[.int .u64 v, .nilIface]) ∧ Below w.heap.size w w' :=
  (parseHex t hne hmax hall w).mono fun e w' ⟨he, hw⟩ => ⟨by rw [he, h]; rfl, by rw [hw]; exact Lib.bytesWorld_below _ _ _⟩
theorem parseHex_range (t : ByteArray) (h : parseU 0 t.data.toList = none) (hne : t.size ≠ 0) (hmax : t.size ≤ 9223372036854775806) (hall : ∀ c ∈ t.data.toList, hexB c.toNat = true) (w : World) :
    Calls Tryd.prog 41 #[.string t, .int .i64 16, .int .i64 64] w fun e w' => e = .returned (.tuple #[.int .u64 18446744073709551615, .iface 66 (.int .i64 1)]) ∧ Below w.heap.size w w' :=
  (parseHex t hne hmax hall w).mono fun e w' ⟨he, hw⟩ => ⟨by rw [he, h]; rfl, by rw [hw]; exact Lib.bytesWorld_below _ _ _⟩

/-- What strconv.ParseUint hands back: the number, or some number and an error. -/
def ParseRes (o : Option Nat) (e : Ending) : Prop := match o with
  | some v => e = .returned (.tuple #[.int .u64 v, .nilIface])
  | none => ∃ (x : Int) (N : Nat), e = .returned (.tuple #[.int .u64 x, .iface 68 (.pointer (some ⟨N, 0, none⟩))])

def capped (n : Nat) : Option Nat := if n < 18446744073709551616 then some n else none

set_option maxHeartbeats 1000000 in
theorem parse16 (t : ByteArray) (hne : t.size ≠ 0) (hmax : t.size ≤ 281474976710656) (hall : ∀ c ∈ t.data.toList, hexB c.toNat = true) (w : World) (hg : G w) :
    Calls Tryd.prog 33 #[.string t, .int .i64 16, .int .i64 64] w fun e w' => ParseRes (capped (valFrom 16 0 t.data.toList)) e ∧ Below w.heap.size w w' := by
  have hp := parseU_eq t.data.toList 0 (by omega)
  rw [show (if valFrom 16 0 t.data.toList < 18446744073709551616 then some (valFrom 16 0 t.data.toList) else none) = capped (valFrom 16 0 t.data.toList) from rfl] at hp
  cases ho : capped (valFrom 16 0 t.data.toList) with
  | some v =>
    rw [ho] at hp
    have c1 := fun w => parseHex_ok t v hp hne (by omega) hall w
    clear hp ho hall hg
    go_enter Tryd.func33, Tryd.ntmps33
    go_wp2_with (go_at_call 41; refine (c1 _).mono ?_; rintro e w1 ⟨rfl, hb⟩)
    go_ret2
    exact ⟨rfl, hb⟩
  | none =>
    rw [ho] at hp
    have c1 := fun w => parseHex_range t hp hne (by omega) hall w
    obtain ⟨te, pe, hr⟩ := hg.rng
    clear hp ho hall hg
    go_enter Tryd.func33, Tryd.ntmps33
    go_wp2_with fail
    refine (c1 _).mono ?_
    rintro e w1 ⟨rfl, hb⟩
    have hr1 := cell_below hb (Nat.le_refl _) hr
    go_wp2_with fail
    refine (Tryd.strconv_toError_range _ _ _ _ (.iface te pe) _ hmax hr1 (.inr ⟨te, pe, rfl⟩)).mono ?_
    rintro e w2 ⟨N, rfl, hN, hcell, hb2⟩
    go_wp2_with fail
    go_ret2
    exact ⟨⟨_, N, rfl⟩, hb.trans (hb2.mono hb.size)⟩

theorem parse10_eq (l : List UInt8) (hall : ∀ c ∈ l, digB c.toNat = true) : ∀ acc, acc < 18446744073709551616 → Lib.parseUintM 18446744073709551615 acc l = if valFrom 10 acc l < 18446744073709551616 then .ok (valFrom 10 acc l) else .range := by
  induction l with
  | nil => intro acc h; simp [Lib.parseUintM, valFrom, h]
  | cons c l ih =>
    intro acc h
    have hg := valFrom_ge 10 (by omega) l (acc * 10 + hexV c)
    have hc : 48 ≤ c.toNat ∧ c.toNat ≤ 57 := by
      have := hall c (by simp)
      simp [digB] at this; omega
    have hh : hexV c = c.toNat - 48 := by unfold hexV; rw [if_pos hc.2]
    have e1 : valFrom 10 acc (c :: l) = valFrom 10 (acc * 10 + hexV c) l := rfl
    have e2 : Lib.parseUintM 18446744073709551615 acc (c :: l) = if 48 ≤ c.toNat ∧ c.toNat ≤ 57 then (if 1844674407370955162 ≤ acc then .range else if 18446744073709551615 < acc * 10 + (c.toNat - 48) then .range else Lib.parseUintM 18446744073709551615 (acc * 10 + (c.toNat - 48)) l) else .syntax := rfl
    rw [e1, e2, if_pos hc, ← hh]
    by_cases h1 : 1844674407370955162 ≤ acc
    · have h3 : ¬ valFrom 10 (acc * 10 + hexV c) l < 18446744073709551616 := by omega
      rw [if_pos h1, if_neg h3]
    · rw [if_neg h1]
      by_cases h2 : 18446744073709551615 < acc * 10 + hexV c
      · have h3 : ¬ valFrom 10 (acc * 10 + hexV c) l < 18446744073709551616 := by omega
        rw [if_pos h2, if_neg h3]
      · rw [if_neg h2]
        exact ih (fun c hc => hall c (by simp [hc])) _ (by omega)

theorem parse10 (t : ByteArray) (hne : t.size ≠ 0) (hmax : t.size ≤ 281474976710656) (hall : ∀ c ∈ t.data.toList, digB c.toNat = true) (w : World) (hg : G w) :
    Calls Tryd.prog 33 #[.string t, .int .i64 10, .int .i64 64] w fun e w' => ParseRes (capped (valFrom 10 0 t.data.toList)) e ∧ Below w.heap.size w w' := by
  have hl : t.data.toList ≠ [] := by
    intro h; apply hne; rw [Lib.size_eq, h]; rfl
  have hp : Lib.parseUintB 64 t.data.toList = if valFrom 10 0 t.data.toList < 18446744073709551616 then .ok (valFrom 10 0 t.data.toList) else .range := by
    rw [← parse10_eq _ hall 0 (by omega)]
    unfold Lib.parseUintB
    rw [if_neg hl]
  obtain ⟨te, pe, hr⟩ := hg.rng
  unfold capped
  by_cases hv : valFrom 10 0 t.data.toList < 18446744073709551616
  · rw [if_pos hv] at hp ⊢
    refine (Tryd.strconv_ParseUint_10_at64_ok t (by omega) _ hp w).mono ?_
    rintro e w' ⟨rfl, hw⟩
    refine ⟨rfl, ?_⟩
    rcases hw with rfl | rfl
    · exact Below.refl _ _
    · exact Lib.bytesWorld_below _ _ _
  · rw [if_neg hv] at hp ⊢
    refine (Tryd.strconv_ParseUint_10_at64_range t hmax hp (.iface te pe) w hr (.inr ⟨te, pe, rfl⟩)).mono ?_
    rintro e w' ⟨N, rfl, _, _, hb⟩
    exact ⟨⟨_, N, rfl⟩, hb⟩

/-- At no digit at all (behind '0x'). -/
theorem parseNone (b : Int) (w : World) (hg : G w) :
    Calls Tryd.prog 33 #[.string ⟨#[]⟩, .int .i64 b, .int .i64 64] w fun e w' => ParseRes none e ∧ Below w.heap.size w w' := by
  obtain ⟨te, pe, hr⟩ := hg.syn
  clear hg
  go_enter Tryd.func33, Tryd.ntmps33
  go_wp2_with fail
  refine (Tryd.internal_strconv_ParseUint_empty _ _ _).mono ?_
  rintro e w1 ⟨rfl, rfl⟩
  go_wp2_with fail
  refine (Tryd.strconv_toError_syntax _ _ _ _ (.iface te pe) _ (by decide) hr (.inr ⟨te, pe, rfl⟩)).mono ?_
  rintro e w2 ⟨N, rfl, hN, hcell, hb2⟩
  go_wp2_with fail
  go_ret2
  exact ⟨⟨_, N, rfl⟩, hb2⟩
end Go.Proofs.YtamimaoaafapbaaDoor
