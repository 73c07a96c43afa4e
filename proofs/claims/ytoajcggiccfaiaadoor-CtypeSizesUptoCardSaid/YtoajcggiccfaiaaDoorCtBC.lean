import Derived.Test.YtoajcggiccfaiaaDoorCtBB
namespace Go.Proofs.YtoajcggiccfaiaaDoor
open Go Go.RowKit
set_option linter.unusedVariables false
set_option linter.unusedSimpArgs false

set_option maxHeartbeats 4000000 in
theorem find_yes (tb rb n rc : Nat) (hn : n ≤ 1000000) (a : Option Addr) (NM : Nat → ByteArray) (FA : Nat → Option Addr) (FN FC : Nat → Nat) (SZ AL : Nat → Int) (nm : ByteArray) (j : Nat) (hj : j < n) (hjn : ((NM j).toList == nm.toList) = true) (hne : ∀ k, k < j → ((NM k).toList == nm.toList) = false) (w : World) (h : TabN w tb rb n rc a NM FA FN FC SZ AL) :
    Calls Tryd.prog 14 #[.pointer (some ⟨tb, 0, none⟩), .string nm] w (TupRes (.tuple #[.int .i64 j, .bool true]) w) := by
  have k0 := World.block_lt_of_cell? w _ h.t
  simp at k0
  have h0 := h.t
  have HA := Lib.hid h.a
  have HL := Lib.hid h.l
  have HR := Lib.hid h.r
  have HN := Lib.hid hne
  have HJ := Lib.hid hjn
  clear hne h hjn
  go_enter Tryd.func14, Tryd.ntmps14
  go_wp2_with fail
  go_loopw [15] (fun vi wr => ∃ k : Nat, vi = .int .i64 k ∧ k ≤ j ∧ Below w.heap.size w wr) (fun vi _ => n - (intOf vi).toNat)
  case atStart => exact ⟨0, rfl, by omega, Below.refl _ _⟩
  case round =>
    obtain ⟨k, rfl, hk, hb⟩ := hrel
    have HB := Lib.hid hb
    by_cases hlt : k < j
    · have hkn : k < n := by omega
      have ha := HA.out (by omega)
      subst ha
      obtain ⟨c0, c1, c2, c3⟩ := (HR.out k hkn).below hb (HL.out (by omega))
      have he := HN.out k hlt
      clear hb h0
      go_wp2
      go_roundw
      case rel => exact ⟨k + 1, by go_num, by omega, HB.out.alloc HB.out.size _⟩
      case measure => simp [intOf]; omega
    · obtain rfl : j = k := by omega
      have ha := HA.out (by omega)
      subst ha
      obtain ⟨c0, c1, c2, c3⟩ := (HR.out j hj).below hb (HL.out (by omega))
      have he := HJ.out
      clear hb h0
      go_wp2
      go_ret2
      exact ⟨rfl, HB.out.alloc HB.out.size _⟩

set_option maxHeartbeats 4000000 in
theorem find_no (tb rb n rc : Nat) (hn : n ≤ 1000000) (a : Option Addr) (NM : Nat → ByteArray) (FA : Nat → Option Addr) (FN FC : Nat → Nat) (SZ AL : Nat → Int) (nm : ByteArray) (hne : ∀ k, k < n → ((NM k).toList == nm.toList) = false) (w : World) (h : TabN w tb rb n rc a NM FA FN FC SZ AL) :
    Calls Tryd.prog 14 #[.pointer (some ⟨tb, 0, none⟩), .string nm] w (TupRes (.tuple #[.int .i64 0, .bool false]) w) := by
  have k0 := World.block_lt_of_cell? w _ h.t
  simp at k0
  have h0 := h.t
  have HA := Lib.hid h.a
  have HL := Lib.hid h.l
  have HR := Lib.hid h.r
  have HN := Lib.hid hne
  skip
  clear hne h
  go_enter Tryd.func14, Tryd.ntmps14
  go_wp2_with fail
  go_loopw [15] (fun vi wr => ∃ k : Nat, vi = .int .i64 k ∧ k ≤ n ∧ Below w.heap.size w wr) (fun vi _ => n - (intOf vi).toNat)
  case atStart => exact ⟨0, rfl, by omega, Below.refl _ _⟩
  case round =>
    obtain ⟨k, rfl, hk, hb⟩ := hrel
    have HB := Lib.hid hb
    by_cases hlt : k < n
    · have hkn : k < n := by omega
      have ha := HA.out (by omega)
      subst ha
      obtain ⟨c0, c1, c2, c3⟩ := (HR.out k hkn).below hb (HL.out (by omega))
      have he := HN.out k hlt
      clear hb h0
      go_wp2
      go_roundw
      case rel => exact ⟨k + 1, by go_num, by omega, HB.out.alloc HB.out.size _⟩
      case measure => simp [intOf]; omega
    · obtain rfl : k = n := by omega
      clear hb h0
      go_wp2
      go_ret2
      exact ⟨rfl, HB.out⟩
end Go.Proofs.YtoajcggiccfaiaaDoor
