import Derived.Test.YtoajcggiccfaiaaDoorCtN
import Derived.Test.YtoajcggiccfaiaaDoorCtO
namespace Go.Proofs.YtoajcggiccfaiaaDoor
open Go Go.RowKit

def fitN : Nat → ByteArray
  | 0 => ⟨#[97]⟩
  | 1 => ⟨#[98]⟩
  | _ => ⟨#[99]⟩
def fitS : Nat → Int
  | 0 => 1
  | 1 => 8
  | _ => 2
theorem fit_fits : Fits 3 fitN fitS := by
  have lt3 : ∀ k, k < 3 → k = 0 ∨ k = 1 ∨ k = 2 := fun k h => by omega
  have le3 : ∀ k, k ≤ 3 → k = 0 ∨ k = 1 ∨ k = 2 ∨ k = 3 := fun k h => by omega
  refine ⟨by decide, by decide, ?_, ?_, ?_, ?_, ?_⟩
  · intro k hk; rcases lt3 k hk with rfl | rfl | rfl <;> decide
  · intro k hk; rcases le3 k hk with rfl | rfl | rfl | rfl <;> decide
  · intro k hk; rcases lt3 k hk with rfl | rfl | rfl <;> decide
  · intro k hk; rcases le3 k hk with rfl | rfl | rfl | rfl <;> decide
  · intro k hk i hi
    rcases lt3 k hk with rfl | rfl | rfl
    · omega
    · obtain rfl : i = 0 := by omega
      rw [Lib.toList_data, Lib.toList_data]; rfl
    · rcases (show i = 0 ∨ i = 1 by omega) with rfl | rfl <;> (rw [Lib.toList_data, Lib.toList_data]; rfl)

def fitCells : Array Value := #[.string ⟨#[97]⟩, .int .i64 1, .int .i64 1, .bool true, .bool false, .pointer none, .int .i64 0, .int .i64 0, .slice none 0 0, .pointer none, .int .i64 0,
  .string ⟨#[98]⟩, .int .i64 1, .int .i64 8, .bool true, .bool false, .pointer none, .int .i64 0, .int .i64 0, .slice none 0 0, .pointer none, .int .i64 0,
  .string ⟨#[99]⟩, .int .i64 1, .int .i64 2, .bool true, .bool false, .pointer none, .int .i64 0, .int .i64 0, .slice none 0 0, .pointer none, .int .i64 0]
theorem fit_row (w : World) : FRow (w.alloc (.cells fitCells 45)) w.heap.size 3 fitN fitS (fun _ => 0) := by
  intro k hk
  rcases (show k = 0 ∨ k = 1 ∨ k = 2 by omega) with rfl | rfl | rfl <;> constructor <;> simp [fitCells, fitN, fitS]

set_option maxRecDepth 100000 in
set_option maxHeartbeats 4000000 in
theorem fit_any (w : World) :
    Calls Tryd.prog 5 #[] w (BoolRes true w) := by
  go_enter Tryd.func5, Tryd.ntmps5
  go_wp2_with fail
  have hB0 : Below w.heap.size w (w.alloc (.cells #[.slice none 0 0] 55)) := (Below.refl _ _).alloc (Nat.le_refl _) _
  have t0 : (w.alloc (.cells #[.slice none 0 0] 55)).cell? ⟨w.heap.size, 0, none⟩ = some (.slice none 0 0) := by simp
  have t1 : (w.alloc (.cells #[.slice none 0 0] 55)).frozen? ⟨w.heap.size, 0, none⟩ = false := by simp
  have t2 : (w.alloc (.cells #[.slice none 0 0] 55)).heap.size = w.heap.size + 1 := by simp
  refine (intOf_any 1 true _).mono ?_
  rintro e w1 ⟨rfl, hb1⟩
  rw [tyV_int]
  go_wp2_with fail
  refine (intOf_any 8 true _).mono ?_
  rintro e w2 ⟨rfl, hb2⟩
  rw [tyV_int]
  go_wp2_with fail
  refine (intOf_any 2 true _).mono ?_
  rintro e w3 ⟨rfl, hb3⟩
  rw [tyV_int]
  have hb := (hb1.trans (hb2.mono hb1.size)).trans (hb3.mono (Nat.le_trans hb1.size hb2.size))
  have HB := Lib.hid hb
  have HB0 := Lib.hid hB0
  have h0 : w3.cell? ⟨w.heap.size, 0, none⟩ = some (.slice none 0 0) := by rw [hb.cell (by simp)]; exact t0
  have h1 : w3.frozen? ⟨w.heap.size, 0, none⟩ = false := by rw [hb.frozen (by simp)]; exact t1
  have h2 : w.heap.size < w3.heap.size := by have := hb.size; rw [t2] at this; omega
  have H0 := Lib.hid h0
  have H1 := Lib.hid h1
  have H2 := Lib.hid h2
  clear hb1 hb2 hb3 hb hB0 t0 t1 t2 h0 h1
  go_wp2_with fail
  refine (add_ints w.heap.size w3.heap.size 3 3 ⟨#[115]⟩ fitN fitS fit_fits _ (by simp; omega) (((Below.refl w3.heap.size w3).alloc (Nat.le_refl _) _ |>.cell (p := ⟨w.heap.size, 0, none⟩) H2.out).trans H0.out) (((Below.refl w3.heap.size w3).alloc (Nat.le_refl _) _ |>.frozen (p := ⟨w.heap.size, 0, none⟩) H2.out).trans H1.out) (by simp) (fit_row w3)).mono ?_
  rintro e w4 ⟨rb, rc, g, fc, rfl, htab, hrow, hg, hsz, hb4⟩
  have HT := Lib.hid htab
  have HR := Lib.hid hrow
  have HG := Lib.hid hg
  have HB4 : Hid (Below w.heap.size w w4) := Lib.hid ((HB0.out.trans (HB.out.mono (by simp))).trans (((Below.refl _ _).alloc (by omega) _).trans hb4))
  have hz4 : w.heap.size < w4.heap.size := by simp at hsz; omega
  have hrb := World.block_lt_of_cell? w4 _ htab.c0
  have HRB := Lib.hid hrb
  clear htab hrow hg hsz hb4 hrb HB HB0 H0 H1
  go_wp2_with fail
  refine (field_found w.heap.size rb rc 3 fc 2 g ⟨#[115]⟩ _ _ fitN fitS (offs fitS) (by omega) (by omega) _ HT.out HG.out HR.out (fit_fits.d 2 (by omega))).mono ?_
  rintro e w5 ⟨rfl, hb5⟩
  have HB5 := Lib.hid hb5
  have hz5 : w.heap.size < w5.heap.size := by have := hb5.size; omega
  clear hb5
  have e1 : fldV (fitN 2) (fitS 2) (offs fitS 2) = .agg #[.string ⟨#[99]⟩, .int .i64 1, .int .i64 2, .bool true, .bool false, .pointer none, .int .i64 0, .int .i64 0, .slice none 0 0, .pointer none, .int .i64 16] := rfl
  rw [e1]
  clear e1
  go_wp2_with fail
  generalize hX : (w5.alloc (.cells #[.string ⟨#[99]⟩, .int .i64 1, .int .i64 2, .bool true, .bool false, .pointer none, .int .i64 0, .int .i64 0, .slice none 0 0, .pointer none, .int .i64 16] 45)).alloc (.cells #[.int .i64 4, .int .i64 0, .bool false, .bool false, .pointer none, .int .i64 0, .int .i64 0, .slice none 0 0, .pointer none] 34) = X
  have hBX : Below w4.heap.size w4 X := by rw [← hX]; exact (HB5.out.alloc HB5.out.size _).alloc (by have := HB5.out.size; simp; omega) _
  have hcx : Cells9 X (w5.heap.size + 1) 0 (.st 0) none := by rw [← hX]; exact cells9_at _ _ (by simp) (.st 0) none _
  have hsX : X.heap.size = w5.heap.size + 2 := by rw [← hX]; simp
  have HBX := Lib.hid hBX
  have HCX := Lib.hid hcx
  have HSX := Lib.hid hsX
  clear hX hBX hcx hsX
  refine (size_st w.heap.size rb rc ⟨#[115]⟩ (some ⟨g, 0, none⟩) 3 fc _ _ _ (HT.out.below HBX.out hz4 HRB.out)).mono ?_
  rintro e w6 ⟨rfl, hb6⟩
  rw [show upM (endM fitS 3) (alM fitS 3) = 24 from rfl]
  have HB6 := Lib.hid (HBX.out.trans (hb6.mono HBX.out.size))
  obtain ⟨x0, x1, x2, x3, x4, x5, x6, x7, x8⟩ := HCX.out.below hb6 (by have := HSX.out; omega)
  simp only [Nat.zero_add, Ty.kind, Ty.size, Ty.sg, Ty.sc, Ty.len, Ty.num] at x0 x1 x2 x3 x4 x5 x6 x7 x8
  clear hb6
  go_wp2_with fail
  refine (align_st w.heap.size rb rc ⟨#[115]⟩ (some ⟨g, 0, none⟩) 3 fc _ _ _ (HT.out.below HB6.out hz4 HRB.out)).mono ?_
  rintro e w7 ⟨rfl, hb7⟩
  rw [show alM fitS 3 = 8 from rfl]
  have HB7 := Lib.hid (HB6.out.trans (hb7.mono HB6.out.size))
  clear hb7
  go_wp2
  go_ret
  exact ⟨rfl, HB4.out.trans (HB7.out.mono (by omega))⟩
end Go.Proofs.YtoajcggiccfaiaaDoor
