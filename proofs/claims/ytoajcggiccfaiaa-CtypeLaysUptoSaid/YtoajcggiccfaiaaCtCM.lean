import Derived.Test.YtoajcggiccfaiaaCtCA
namespace Go.Proofs.Ytoajcggiccfaiaa
open Go Go.RowKit
set_option linter.unusedVariables false
set_option linter.unusedSimpArgs false

def FieldRes (nm : ByteArray) (t : Ty) (at_ : Int) (w : World) (e : Ending) (w' : World) : Prop := ∃ el, e = .returned (.tuple #[fldT nm t el at_, .bool true]) ∧ Below w.heap.size w w'

set_option maxHeartbeats 4000000 in
theorem fieldT_any (tb rb N rc : Nat) (hN : N ≤ 1000000) (a : Option Addr) (SN : Nat → ByteArray) (FA : Nat → Option Addr) (FN FC : Nat → Nat) (SZ AL : Nat → Int) (k : Nat) (hk : k < N) (g n m : Nat) (hfa : FA k = some ⟨g, 0, none⟩) (hfn : FN k = n) (hn : n ≤ 20) (hm : m < n) (NM : Nat → ByteArray) (TY : Nat → Ty) (EL : Nat → Option Addr) (AT : Nat → Int) (w : World) (h : TabN w tb rb N rc a SN FA FN FC SZ AL) (hg : g < w.heap.size) (hr : GRow w g n NM TY EL AT) (hel : ElAt w 0 w.heap.size (TY m) (EL m))
    (hne : ∀ i, i < m → ((NM i).toList == (NM m).toList) = false) :
    Calls Try.prog 10 #[.pointer (some ⟨tb, 0, none⟩), .int .i64 k, .string (NM m)] w (FieldRes (NM m) (TY m) (AT m) w) := by
  have k0 := World.block_lt_of_cell? w _ h.t
  simp at k0
  have H := Lib.hid h
  have HR := Lib.hid hr
  have HN := Lib.hid hne
  have HEL := Lib.hid hel
  have hrec := fun w h => record_in tb rb N rc hN a SN FA FN FC SZ AL k hk w h
  rw [hfa, hfn] at hrec
  obtain ⟨fc, hfc⟩ : ∃ x, x = FC k := ⟨_, rfl⟩
  obtain ⟨nm, hnm⟩ : ∃ x, x = SN k := ⟨_, rfl⟩
  obtain ⟨sz, hsz⟩ : ∃ x, x = SZ k := ⟨_, rfl⟩
  obtain ⟨al, hal0⟩ : ∃ x, x = AL k := ⟨_, rfl⟩
  rw [← hfc, ← hnm, ← hsz, ← hal0] at hrec
  have HREC := Lib.hid hrec
  have hFR := fun w h => fresh_any (TY m) (EL m) w h
  unfold tyV at hFR
  have HFR := Lib.hid hFR
  clear h hr hne hel hrec hfa hfn hfc hnm hsz hal0 hFR
  go_enter Try.func10, Try.ntmps10
  go_wp2_with fail
  generalize hW : w.alloc (.cells #[.string ⟨#[]⟩, .int .i64 0, .int .i64 0, .bool false, .bool false, .pointer none, .int .i64 0, .int .i64 0, .slice none 0 0, .pointer none, .int .i64 0] 40) = W
  have hB0 : Below w.heap.size w W := by rw [← hW]; exact (Below.refl _ _).alloc (Nat.le_refl _) _
  have hsW : W.heap.size = w.heap.size + 1 := by rw [← hW]; simp
  have HB0 := Lib.hid hB0
  have HSW := Lib.hid hsW
  have hrc : RCells W w.heap.size := by rw [← hW]; constructor <;> simp
  have HRC := Lib.hid hrc
  clear hB0 hsW hrc hW
  refine (HREC.out _ (H.out.below k0 HB0.out)).mono ?_
  rintro e w1 ⟨rfl, hb1⟩
  have HB1 := Lib.hid hb1
  clear hb1
  go_wp2_with fail
  have hle : w.heap.size < w1.heap.size := by have := HB1.out.size; have := HSW.out; omega
  have hal : Below w.heap.size w (w1.alloc (.cells #[.string nm, .slice (some ⟨g, 0, none⟩) n fc, .int .i64 sz, .int .i64 al] 69)) := (HB0.out.trans (HB1.out.mono (by have := HSW.out; omega))).alloc (by omega) _
  refine (fieldOfT_found g fc n m (by omega) hm NM TY EL AT _ (by simp; omega) (HR.out.below hal hg) HN.out).mono ?_
  rintro e w2 ⟨rfl, hb2⟩
  have HB2 : Hid (Below W.heap.size W w2) := Lib.hid (HB1.out.trans ((Below.refl w1.heap.size w1).alloc (Nat.le_refl _) _ |>.trans (hb2.mono (by simp)) |>.mono HB1.out.size))
  have hle2 : w.heap.size < w2.heap.size := by have := HB2.out.size; have := HSW.out; omega
  clear hb2 hal
  unfold fldT
  go_wp2_with fail
  (with_reducible refine (HFR.out _ ?_).mono ?_)
  · exact ((HEL.out.below (HB0.out.trans (HB2.out.mono (by have := HSW.out; omega))) (Nat.le_refl _)).mono (Nat.le_refl _) (by omega) : ElAt w2 0 w2.heap.size (TY m) (EL m)).alloc (Nat.le_refl _) _ |>.mono (Nat.le_refl _) (by simp)
  rintro e w3 ⟨el3, rfl, hel3, hb3⟩
  clear hel3
  generalize hV : w2.alloc (.cells #[.string (NM m), .int .i64 (TY m).kind, .int .i64 (TY m).size, .bool (TY m).sg, .bool (TY m).sc, .pointer (EL m), .int .i64 (TY m).len, .int .i64 (TY m).num, .slice none 0 0, .pointer none, .int .i64 (AT m)] 40) = V at hb3
  have hfv : GCells V w2.heap.size 0 (NM m) (TY m) (EL m) (AT m) := by rw [← hV]; constructor <;> simp
  have hff : ∀ o, o < 11 → V.frozen? ⟨w2.heap.size, o, none⟩ = false := by rw [← hV]; intro o _; simp
  have hsV : V.heap.size = w2.heap.size + 1 := by rw [← hV]; simp
  have hBV : Below w2.heap.size w2 V := by rw [← hV]; exact (Below.refl _ _).alloc (Nat.le_refl _) _
  obtain ⟨v0, v1, v2, v3, v4, v5, v6, v7, v8, v9, v10⟩ := hfv.below hb3 (by omega)
  have e : ∀ o, o < 11 → w3.frozen? ⟨w2.heap.size, o, none⟩ = false := fun o ho => by rw [hb3.frozen (by simp [hsV])]; exact hff o ho
  have q0 := e 0 (by omega)
  have q1 := e 1 (by omega)
  have q2 := e 2 (by omega)
  have q3 := e 3 (by omega)
  have q4 := e 4 (by omega)
  have q5 := e 5 (by omega)
  have q6 := e 6 (by omega)
  have q7 := e 7 (by omega)
  have q8 := e 8 (by omega)
  have q9 := e 9 (by omega)
  have q10 := e 10 (by omega)
  simp only [Nat.zero_add] at v1 v2 v3 v4 v5 v6 v7 v8 v9 v10
  have HB3 : Hid (Below W.heap.size W w3) := Lib.hid (HB2.out.trans ((hBV.trans (hb3.mono (by omega))).mono HB2.out.size))
  obtain ⟨h0, h1, h2, h3, h4, h5, h6, h7, h8, h9, h10, f0, f1, f2, f3, f4, f5, f6, f7, f8, f9, f10⟩ := HRC.out.below HB3.out (by have := HSW.out; omega)
  have hz3 : w2.heap.size < w3.heap.size := by have := hb3.size; omega
  have hz4 : w.heap.size < w3.heap.size := by omega
  have n1 : w.heap.size ≠ w2.heap.size := by omega
  have n2 : w2.heap.size ≠ w.heap.size := by omega
  have HBW := Lib.hid (HB0.out.trans (HB3.out.mono (by have := HSW.out; omega)))
  clear e hb3 hV hfv hff hsV hBV
  unfold tyV
  go_wp2
  have hbw := HBW.out
  refine bodyPost_ret (v := .tuple #[fldT (NM m) (TY m) el3 (AT m), .bool true]) ?_ rfl ⟨el3, rfl, ?_⟩
  · unfold fldT; simp [results, Try.results10, go_sem, h0, h1, h2, h3, h4, h5, h6, h7, h8, h9, h10]
  · ((repeat (first | (with_reducible exact hbw) | (with_reducible apply Below.setCell) | (with_reducible apply Below.alloc))) <;> first | omega | (simp <;> omega))
end Go.Proofs.Ytoajcggiccfaiaa
