import Derived.Test.YtoajcggiccfaiaaDoorDsC
namespace Go.Proofs.YtoajcggiccfaiaaDoor
open Go Go.RowKit
set_option linter.unusedVariables false
set_option linter.unusedSimpArgs false

set_option maxRecDepth 100000 in
set_option maxHeartbeats 2000000 in
/-- Show gives the text of any type. -/
theorem show_any (tb rb n rc : Nat) (hn : n ≤ 1000000) (a : Option Addr) (NM : Nat → ByteArray) (FA : Nat → Option Addr) (FN FC : Nat → Nat) (SZ AL : Nat → Int) (t : Ty) (ok : Ok99 t) (el : Option Addr) (w : World) (htb : tb < w.heap.size) (hT : TabN w tb rb n rc a NM FA FN FC SZ AL) (he : ElAt w 0 w.heap.size t el) (hl : (showL n NM t).length ≤ 1000000000) :
    Calls Tryd.prog 12 #[.pointer (some ⟨tb, 0, none⟩), tyV t el] w (StrRes (showL n NM t) w) := by
  have hw := fun (b : Nat) (l : List UInt8) (w : World) => write_any tb rb n rc hn a NM FA FN FC SZ AL b t ok l el w
  unfold tyV at hw
  have HW := Lib.hid hw
  have HT := Lib.hid hT
  have HE := Lib.hid he
  clear hw hT he
  unfold tyV
  have hb1 : Below w.heap.size w (w.alloc (.cells #[.int .i64 t.kind, .int .i64 t.size, .bool t.sg, .bool t.sc, .pointer el, .int .i64 t.len, .int .i64 t.num, .slice none 0 0, .pointer none] 34)) := (Below.refl _ _).alloc (Nat.le_refl _) _
  have hb2 := hb1.alloc (by simp) (.cells #[.pointer none, .slice none 0 0] 80)
  have hbd : Bld (w.heap.size + 1) [] ((w.alloc (.cells #[.int .i64 t.kind, .int .i64 t.size, .bool t.sg, .bool t.sc, .pointer el, .int .i64 t.len, .int .i64 t.num, .slice none 0 0, .pointer none] 34)).alloc (.cells #[.pointer none, .slice none 0 0] 80)) := by
    have := Lib.fresh_isBuilder 80 5 (w.alloc (.cells #[.int .i64 t.kind, .int .i64 t.size, .bool t.sg, .bool t.sc, .pointer el, .int .i64 t.len, .int .i64 t.num, .slice none 0 0, .pointer none] 34))
    rw [World.size_alloc] at this
    exact this
  have HB2 := Lib.hid hb2
  have HBD := Lib.hid hbd
  clear hb1 hb2 hbd
  go_enter Tryd.func12, Tryd.ntmps12
  go_wp2_with fail
  (with_reducible refine (HW.out (w.heap.size + 1) [] _ (by simp; omega) (HT.out.below htb HB2.out) ((HE.out.below HB2.out (Nat.le_refl _)).mono (Nat.le_refl _) HB2.out.size) HBD.out (by simp) (by simpa using hl)).mono ?_)
  rintro e w1 ⟨rfl, h1, h2, h3⟩
  have hlt := h2.size
  simp at hlt
  have SS := Lib.hid (Tryd.Builder_String_any (w.heap.size + 1) (w.heap.size + 1) (showL n NM t) w1 h1 (by omega))
  have H2 := Lib.hid h2
  clear h1 h2 h3
  go_wp2_with fail
  (with_reducible refine SS.out.mono ?_)
  rintro e w2 ⟨rfl, h3⟩
  have H3 := Lib.hid h3
  clear h3
  go_wp2_with fail
  go_ret
  exact ⟨rfl, (HB2.out.trans (H2.out.mono (by omega))).trans (H3.out.mono (by omega))⟩

theorem dec1 (m : Nat) (h : m < 10) : Lib.decDigits m = [UInt8.ofNat (48 + m)] := by
  rw [Lib.decDigits, dif_pos h]
theorem dec2 (m : Nat) (h : ¬ m < 10) : Lib.decDigits m = Lib.decDigits (m / 10) ++ Lib.decDigits (m % 10) := by
  rw [Lib.decDigits, dif_neg h, dec1 (m % 10) (by omega)]

theorem ba_mk (a b : List UInt8) : (⟨a.toArray⟩ ++ ⟨b.toArray⟩ : ByteArray) = ⟨(a ++ b).toArray⟩ := by
  apply ByteArray.ext
  simp

theorem conv1 (w : World) (x : Int) (c : UInt8) (hx : (c.toNat : Int) = x) : (convert 78 9 (.slice (some ⟨w.heap.size, 0, none⟩) 1 1)).run Tryd.prog (w.alloc (.cells #[.int .u8 x] 5)) = .ok (.string ⟨#[c]⟩) (w.alloc (.cells #[.int .u8 x] 5)) := by
  subst hx
  exact run_convert_bytes_back _ _ _ _ ⟨w.heap.size, 0, none⟩ 1 [c] Tryd.underlying78 Tryd.underlying5 Tryd.underlying9 (fun j hj => by
    obtain rfl : j = 0 := by simpa using hj
    simp [Addr.add])

set_option maxRecDepth 100000 in
set_option maxHeartbeats 2000000 in
theorem digits1_0 (w : World) : Calls Tryd.prog 32 #[.int .i64 0] w (StrRes [48] w) := by
  have kc := conv1 w 48 48 rfl
  go_enter Tryd.func32, Tryd.ntmps32
  go_wp2_with fail
  go_ret
  exact ⟨by rfl, (Below.refl _ _).alloc (Nat.le_refl _) _⟩

set_option maxRecDepth 100000 in
set_option maxHeartbeats 2000000 in
theorem digits1_1 (w : World) : Calls Tryd.prog 32 #[.int .i64 1] w (StrRes [49] w) := by
  have kc := conv1 w 49 49 rfl
  go_enter Tryd.func32, Tryd.ntmps32
  go_wp2_with fail
  go_ret
  exact ⟨by rfl, (Below.refl _ _).alloc (Nat.le_refl _) _⟩

set_option maxRecDepth 100000 in
set_option maxHeartbeats 2000000 in
theorem digits1_2 (w : World) : Calls Tryd.prog 32 #[.int .i64 2] w (StrRes [50] w) := by
  have kc := conv1 w 50 50 rfl
  go_enter Tryd.func32, Tryd.ntmps32
  go_wp2_with fail
  go_ret
  exact ⟨by rfl, (Below.refl _ _).alloc (Nat.le_refl _) _⟩

set_option maxRecDepth 100000 in
set_option maxHeartbeats 2000000 in
theorem digits1_3 (w : World) : Calls Tryd.prog 32 #[.int .i64 3] w (StrRes [51] w) := by
  have kc := conv1 w 51 51 rfl
  go_enter Tryd.func32, Tryd.ntmps32
  go_wp2_with fail
  go_ret
  exact ⟨by rfl, (Below.refl _ _).alloc (Nat.le_refl _) _⟩

set_option maxRecDepth 100000 in
set_option maxHeartbeats 2000000 in
theorem digits1_4 (w : World) : Calls Tryd.prog 32 #[.int .i64 4] w (StrRes [52] w) := by
  have kc := conv1 w 52 52 rfl
  go_enter Tryd.func32, Tryd.ntmps32
  go_wp2_with fail
  go_ret
  exact ⟨by rfl, (Below.refl _ _).alloc (Nat.le_refl _) _⟩

set_option maxRecDepth 100000 in
set_option maxHeartbeats 2000000 in
theorem digits1_5 (w : World) : Calls Tryd.prog 32 #[.int .i64 5] w (StrRes [53] w) := by
  have kc := conv1 w 53 53 rfl
  go_enter Tryd.func32, Tryd.ntmps32
  go_wp2_with fail
  go_ret
  exact ⟨by rfl, (Below.refl _ _).alloc (Nat.le_refl _) _⟩

set_option maxRecDepth 100000 in
set_option maxHeartbeats 2000000 in
theorem digits1_6 (w : World) : Calls Tryd.prog 32 #[.int .i64 6] w (StrRes [54] w) := by
  have kc := conv1 w 54 54 rfl
  go_enter Tryd.func32, Tryd.ntmps32
  go_wp2_with fail
  go_ret
  exact ⟨by rfl, (Below.refl _ _).alloc (Nat.le_refl _) _⟩

set_option maxRecDepth 100000 in
set_option maxHeartbeats 2000000 in
theorem digits1_7 (w : World) : Calls Tryd.prog 32 #[.int .i64 7] w (StrRes [55] w) := by
  have kc := conv1 w 55 55 rfl
  go_enter Tryd.func32, Tryd.ntmps32
  go_wp2_with fail
  go_ret
  exact ⟨by rfl, (Below.refl _ _).alloc (Nat.le_refl _) _⟩

set_option maxRecDepth 100000 in
set_option maxHeartbeats 2000000 in
theorem digits1_8 (w : World) : Calls Tryd.prog 32 #[.int .i64 8] w (StrRes [56] w) := by
  have kc := conv1 w 56 56 rfl
  go_enter Tryd.func32, Tryd.ntmps32
  go_wp2_with fail
  go_ret
  exact ⟨by rfl, (Below.refl _ _).alloc (Nat.le_refl _) _⟩

set_option maxRecDepth 100000 in
set_option maxHeartbeats 2000000 in
theorem digits1_9 (w : World) : Calls Tryd.prog 32 #[.int .i64 9] w (StrRes [57] w) := by
  have kc := conv1 w 57 57 rfl
  go_enter Tryd.func32, Tryd.ntmps32
  go_wp2_with fail
  go_ret
  exact ⟨by rfl, (Below.refl _ _).alloc (Nat.le_refl _) _⟩

theorem digits1 (m : Nat) (hm : m < 10) (w : World) : Calls Tryd.prog 32 #[.int .i64 m] w (StrRes (Lib.decDigits m) w) := by
  rw [dec1 m hm]
  have hmr : m = 0 ∨ m = 1 ∨ m = 2 ∨ m = 3 ∨ m = 4 ∨ m = 5 ∨ m = 6 ∨ m = 7 ∨ m = 8 ∨ m = 9 := by omega
  rcases hmr with rfl | rfl | rfl | rfl | rfl | rfl | rfl | rfl | rfl | rfl
  · exact digits1_0 w
  · exact digits1_1 w
  · exact digits1_2 w
  · exact digits1_3 w
  · exact digits1_4 w
  · exact digits1_5 w
  · exact digits1_6 w
  · exact digits1_7 w
  · exact digits1_8 w
  · exact digits1_9 w

set_option maxRecDepth 100000 in
set_option maxHeartbeats 2000000 in
theorem digits2 (m : Nat) (hm : m < 100) (w : World) : Calls Tryd.prog 32 #[.int .i64 m] w (StrRes (Lib.decDigits m) w) := by
  by_cases h : m < 10
  · exact digits1 m h w
  rw [dec2 m h]
  obtain ⟨x, hx⟩ : ∃ x : Int, (m : Int) = x := ⟨_, rfl⟩
  have h0 : ¬ x < 10 := by omega
  have h1 : x < 100 := by omega
  have E1 : Hid (x / 10 = ((m / 10 : Nat) : Int)) := Lib.hid (by omega)
  have E2 : Hid (x % 10 = ((m % 10 : Nat) : Int)) := Lib.hid (by omega)
  have l1 : (Lib.decDigits (m / 10)).length ≤ 10 := by rw [dec1 _ (by omega)]; simp
  have l2 : (Lib.decDigits (m % 10)).length ≤ 10 := by rw [dec1 _ (by omega)]; simp
  rw [hx]
  clear hx
  go_enter Tryd.func32, Tryd.ntmps32
  go_wp2_with fail
  rw [E1.out]
  (with_reducible refine (digits1 (m / 10) (by omega) w).mono ?_)
  rintro e w1 ⟨rfl, hb1⟩
  have HB1 := Lib.hid hb1
  clear hb1
  go_wp2_with fail
  rw [E2.out]
  (with_reducible refine (digits1 (m % 10) (by omega) w1).mono ?_)
  rintro e w2 ⟨rfl, hb2⟩
  have HB2 := Lib.hid (HB1.out.trans (hb2.mono HB1.out.size))
  clear hb2
  go_wp2_with fail
  go_ret
  exact ⟨by rw [ba_mk]; rfl, HB2.out⟩
end Go.Proofs.YtoajcggiccfaiaaDoor
