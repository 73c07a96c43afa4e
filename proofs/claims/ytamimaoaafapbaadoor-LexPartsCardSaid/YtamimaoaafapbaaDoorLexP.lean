import Derived.Test.YtamimaoaafapbaaDoorLexM
import Derived.Test.YtamimaoaafapbaaDoorShelf
import Derived.Test.YtamimaoaafapbaaDoorRows
import Derived.Lib.ConvBytes
import Derived.Lib.AtoiAllMem
import Derived.Lib.Hide
import Derived.Laws.Strings3
import Derived.Laws.Closers25
import Derived.Laws.Closers25b
import Derived.WalkKit
import Derived.BigCall
import Derived.BigGuard
import Derived.Outline
namespace Go.Proofs.YtamimaoaafapbaaDoor
open Go Go.RowKit

theorem lowHex (n : Nat) (h : (97 ≤ n ∧ n ≤ 102) ∨ (65 ≤ n ∧ n ≤ 70)) : bits .or .u8 (n : Int) 32 = ((if n ≤ 70 then n + 32 else n : Nat) : Int) := by
  have : n = 97 ∨ n = 98 ∨ n = 99 ∨ n = 100 ∨ n = 101 ∨ n = 102 ∨ n = 65 ∨ n = 66 ∨ n = 67 ∨ n = 68 ∨ n = 69 ∨ n = 70 := by omega
  rcases this with h | h | h | h | h | h | h | h | h | h | h | h <;> subst h <;> decide

def hexRes (o : Option Nat) : Value := match o with
  | some v => .tuple #[.int .u64 v, .nilIface]
  | none => .tuple #[.int .u64 18446744073709551615, .iface 66 (.int .i64 1)]

set_option maxHeartbeats 32000000 in
set_option maxRecDepth 100000 in
theorem parseHex (t : ByteArray) (hne : t.size ≠ 0) (hmax : t.size ≤ 9223372036854775806) (hall : ∀ c ∈ t.data.toList, hexB c.toNat = true) (w : World) :
    Calls Tryd.prog 41 #[.string t, .int .i64 16, .int .i64 64] w fun e w' => e = .returned (hexRes (parseU 0 t.data.toList)) ∧ w' = Lib.bytesWorld w 5 t := by
  have hemp : t.toList.isEmpty = false := by
    rw [← decide_eq_emptyBytes]
    exact decide_eq_false (fun h => hne (by rw [h]; rfl))
  have hcv := Lib.run_convert_string_bytes (P := Tryd.prog) w 9 37 5 t (u := .string) Tryd.underlying9 Tryd.underlying37 Tryd.underlying5
  have hB : ∀ j, j < t.size → (Lib.bytesWorld w 5 t).cell? ⟨w.heap.size, j, none⟩ = some (.int .u8 (t.data.toList.getD j 0).toNat) := fun j hj => Lib.bytesWorld_cell w 5 t j hj
  obtain ⟨W1, hW1⟩ : ∃ W1, W1 = Lib.bytesWorld w 5 t := ⟨_, rfl⟩
  rw [← hW1] at hcv hB ⊢
  clear hW1
  obtain ⟨bs, hL⟩ : ∃ bs, bs = t.data.toList := ⟨_, rfl⟩
  have hLn : bs.length = t.size := by rw [hL, Lib.size_eq]
  rw [← hL] at hB hall ⊢
  clear hL
  have hmv : IntKind.u64.wrap (IntKind.u64.wrap 18446744073709551616 - 1) = 18446744073709551615 := by
    rw [IntKind.wrap_u64, IntKind.wrap_u64]
    decide
  have HA := Lib.hid hall
  clear hall
  go_enter Tryd.func41, Tryd.ntmps41
  go_wp2
  go_loop [12, 13, 101] (fun vu vn vi => ∃ (k acc : Nat) (a : Int), vu = .bool false ∧ vn = .int .u64 a ∧ vi = .int .i64 k ∧ k ≤ t.size ∧ Hid (a = (acc : Int) ∧ acc < 18446744073709551616 ∧ parseU 0 bs = parseU acc (bs.drop k)))
    (fun _ _ vi => t.size - (intOf vi).toNat)
  case atStart => exact ⟨0, 0, 0, rfl, rfl, rfl, by omega, rfl, by omega, rfl⟩
  case round =>
    obtain ⟨k, acc, a, rfl, rfl, rfl, hk, hh⟩ := hrel
    obtain ⟨ha, hacc, hdec⟩ := hh.out
    clear hh
    have a0 : 0 ≤ a := by omega
    have a1 : a < 18446744073709551616 := by omega
    by_cases hkn : k < t.size
    · have hc := hB k hkn
      have hdrop : bs.drop k = bs[k]'(by omega) :: bs.drop (k + 1) := List.drop_eq_getElem_cons (by omega)
      have hget : bs.getD k 0 = bs[k]'(by omega) := by simp [List.getD, List.getElem?_eq_getElem (show k < bs.length by omega)]
      have hx := HA.out (bs[k]'(by omega)) (List.getElem_mem _)
      rw [hdrop] at hdec
      rw [hget] at hc
      generalize bs[k]'(by omega) = c at hc hdec hx
      have hc256 : c.toNat < 256 := c.toNat_lt
      clear hB hdrop hget
      have hx' : (48 ≤ c.toNat ∧ c.toNat ≤ 57) ∨ ((97 ≤ c.toNat ∧ c.toNat ≤ 102) ∨ (65 ≤ c.toNat ∧ c.toNat ≤ 70)) := by
        simp [hexB, digB] at hx; omega
      clear hx
      rcases hx' with ⟨hd0, hd1⟩ | hlet
      · have hhv : hexV c = c.toNat - 48 := by unfold hexV; rw [if_pos hd1]
        by_cases hcut : 1152921504606846976 ≤ acc
        · have hF : parseU acc (c :: bs.drop (k + 1)) = none := by simp [parseU, hcut]
          rw [hF] at hdec
          have icut : 1152921504606846976 ≤ a := by omega
          have HD := Lib.hid hdec
          clear hcut hacc hF ha hhv hdec
          go_wp2
          go_ret2
          exact ⟨by rw [HD.out]; rfl, rfl⟩
        · by_cases hov : 18446744073709551616 ≤ acc * 16 + hexV c
          · exfalso; omega
          · have hF : parseU acc (c :: bs.drop (k + 1)) = parseU (acc * 16 + hexV c) (bs.drop (k + 1)) := by simp [parseU, hcut, hov]
            have HN : Hid (a * 16 + ((c.toNat : Int) - 48) = ((acc * 16 + hexV c : Nat) : Int) ∧ acc * 16 + hexV c < 18446744073709551616 ∧ parseU 0 bs = parseU (acc * 16 + hexV c) (bs.drop (k + 1))) := Lib.hid ⟨by omega, by omega, hdec.trans hF⟩
            have icut : a < 1152921504606846976 := by omega
            have iov : a * 16 + ((c.toNat : Int) - 48) < 18446744073709551616 := by omega
            clear hcut hacc hF hov hdec ha hhv
            go_wp2
            refine ⟨⟨k + 1, acc * 16 + hexV c, a * 16 + ((c.toNat : Int) - 48), rfl, (by first | rfl | (congr 1; omega)), (by first | rfl | (congr 1; omega)), by omega, HN⟩, by simp [intOf]; omega⟩
      · have hlow := lowHex c.toNat hlet
        obtain ⟨x, hx⟩ : ∃ x : Int, x = ((if c.toNat ≤ 70 then c.toNat + 32 else c.toNat : Nat) : Int) := ⟨_, rfl⟩
        rw [← hx] at hlow
        have x0 : 97 ≤ x := by rw [hx]; split <;> omega
        have x1 : x ≤ 102 := by rw [hx]; split <;> omega
        have hhv : (hexV c : Int) = x - 97 + 10 := by
          rw [hx]; unfold hexV
          rcases hlet with h | h
          · rw [if_neg (by omega), if_neg (by omega), if_neg (by omega)]; omega
          · rw [if_neg (by omega), if_pos (by omega), if_pos (by omega)]; omega
        have hnd : ¬ (c.toNat : Int) ≤ 57 := by omega
        have hn95 : ((c.toNat : Int) == 95) = false := by simp; omega
        clear hx hlet
        by_cases hcut : 1152921504606846976 ≤ acc
        · have hF : parseU acc (c :: bs.drop (k + 1)) = none := by simp [parseU, hcut]
          rw [hF] at hdec
          have icut : 1152921504606846976 ≤ a := by omega
          have HD := Lib.hid hdec
          clear hcut hacc hF ha hhv hdec
          go_wp2_with (go_at_call 47; refine (Tryd.internal_strconv_lower _ _).mono ?_; rintro e w' ⟨rfl, rfl⟩)
          go_ret2
          exact ⟨by rw [HD.out]; rfl, rfl⟩
        · by_cases hov : 18446744073709551616 ≤ acc * 16 + hexV c
          · exfalso; omega
          · have hF : parseU acc (c :: bs.drop (k + 1)) = parseU (acc * 16 + hexV c) (bs.drop (k + 1)) := by simp [parseU, hcut, hov]
            have HN : Hid (a * 16 + (x - 97 + 10) = ((acc * 16 + hexV c : Nat) : Int) ∧ acc * 16 + hexV c < 18446744073709551616 ∧ parseU 0 bs = parseU (acc * 16 + hexV c) (bs.drop (k + 1))) := Lib.hid ⟨by omega, by omega, hdec.trans hF⟩
            have icut : a < 1152921504606846976 := by omega
            have iov : a * 16 + (x - 97 + 10) < 18446744073709551616 := by omega
            clear hcut hacc hF hov hdec ha hhv
            go_wp2_with (go_at_call 47; refine (Tryd.internal_strconv_lower _ _).mono ?_; rintro e w' ⟨rfl, rfl⟩)
            refine ⟨⟨k + 1, acc * 16 + hexV c, a * 16 + (x - 97 + 10), rfl, (by first | rfl | (congr 1; omega)), (by first | rfl | (congr 1; omega)), by omega, HN⟩, by simp [intOf]; omega⟩
    · have hkk : k = t.size := by omega
      subst hkk
      have hF : parseU acc (bs.drop t.size) = some acc := by rw [List.drop_eq_nil_of_le (by omega)]; rfl
      rw [hF] at hdec
      subst ha
      have HD := Lib.hid hdec
      clear hacc hF a0 a1 hdec
      go_wp2
      go_ret2
      exact ⟨by rw [HD.out]; rfl, rfl⟩
end Go.Proofs.YtamimaoaafapbaaDoor
