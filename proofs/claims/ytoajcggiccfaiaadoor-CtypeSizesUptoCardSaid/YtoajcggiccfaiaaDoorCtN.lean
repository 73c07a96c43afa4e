import Derived.Test.YtoajcggiccfaiaaDoorCtL
import Derived.Deep.RegionLaw
namespace Go.Proofs.YtoajcggiccfaiaaDoor
open Go Go.RowKit

theorem infoRec : (Tryd.prog.info? 73).map (fun i => (i.zero, i.size, i.bytes)) = some (some (.agg #[.string ⟨#[]⟩, .slice none 0 0, .int .i64 0, .int .i64 0]), 4, 56) := by kernel_rfl

def AddRes (tb : Nat) (nm : ByteArray) (n : Nat) (NM : Nat → ByteArray) (SZ : Nat → Int) (w : World) (e : Ending) (w' : World) : Prop :=
  ∃ rb rc g fc, e = .returned (.tuple #[.int .i64 0, .int .i64 0]) ∧ TabOne w' tb rb rc nm (some ⟨g, 0, none⟩) n fc (upM (endM SZ n) (alM SZ n)) (alM SZ n) ∧ FRow w' g n NM SZ (offs SZ) ∧ g < w'.heap.size ∧ w.heap.size ≤ w'.heap.size ∧ Below tb w w'

/-- After the record was appended. -/
def NewRec (tb : Nat) (Y : World) (g : Nat) (nm : ByteArray) (n fc : Nat) (sz al : Int) (wx : World) : Prop :=
  ∃ rb rc, TabOne wx tb rb rc nm (some ⟨g, 0, none⟩) n fc sz al ∧ Y.heap.size ≤ wx.heap.size ∧ Below tb Y wx ∧ ∀ b, b < Y.heap.size → b ≠ tb → ∀ o, wx.cell? ⟨b, o, none⟩ = Y.cell? ⟨b, o, none⟩

set_option maxRecDepth 100000 in
set_option maxHeartbeats 4000000 in
theorem add_ints (tb fb fc n : Nat) (nm : ByteArray) (NM : Nat → ByteArray) (SZ : Nat → Int) (hF : Fits n NM SZ) (w : World) (htb : tb < w.heap.size) (hct : w.cell? ⟨tb, 0, none⟩ = some (.slice none 0 0)) (hft : w.frozen? ⟨tb, 0, none⟩ = false)
    (hfb : fb < w.heap.size) (hr : FRow w fb n NM SZ (fun _ => 0)) :
    Calls Tryd.prog 19 #[.pointer (some ⟨tb, 0, none⟩), .string nm, .slice (some ⟨fb, 0, none⟩) n fc] w (AddRes tb nm n NM SZ w) := by
  obtain ⟨i0, hi, hz0, hz1, hz2⟩ := info_parts infoRec
  have hn2 := hF.n2
  have C1 := Lib.hid (layOut_ints (.pointer (some ⟨tb, 0, none⟩)) fb fc n NM SZ hF w hfb hr)
  have I1 := Lib.hid hi
  have I2 := Lib.hid hz0
  have I3 := Lib.hid hz1
  have I4 := Lib.hid hz2
  have hd : decide (20 < n) = false := by simp; omega
  clear hF hr hi hz0 hz1 hz2
  go_enter Tryd.func19, Tryd.ntmps19
  go_wp2_with (first
    | (go_at_call 14; refine (find_empty tb nm _ hct).mono ?_; rintro e w' ⟨rfl, rfl⟩)
    | (go_at_call 36
       refine C1.out.mono ?_
       rintro e w1 ⟨g, c, rfl, hrow, hg1, hg2, hb⟩
       have HROW := Lib.hid hrow
       have HG1 := Lib.hid hg1
       have HG2 := Lib.hid hg2
       have HB := Lib.hid hb
       have ht1 : w1.cell? ⟨tb, 0, none⟩ = some (.slice none 0 0) := by rw [hb.cell (by exact htb)]; exact hct
       have hf1 : w1.frozen? ⟨tb, 0, none⟩ = false := by rw [hb.frozen (by exact htb)]; exact hft
       have hl1 : tb < w1.heap.size := by have := hb.size; omega
       clear hrow hg1 hg2 hb))
  generalize hY : w1.alloc (.cells #[.string nm, .slice (some ⟨g, 0, none⟩) n c, .int .i64 (upM (endM SZ n) (alM SZ n)), .int .i64 (alM SZ n)] 73) = Y
  have hBY : Below w1.heap.size w1 Y := by rw [← hY]; exact (Below.refl _ _).alloc (Nat.le_refl _) _
  have hsY : Y.heap.size = w1.heap.size + 1 := by rw [← hY]; simp
  have y0 : Y.cell? ⟨w1.heap.size, 0, none⟩ = some (.string nm) := by rw [← hY]; simp
  have y1 : Y.cell? ⟨w1.heap.size, 1, none⟩ = some (.slice (some ⟨g, 0, none⟩) n c) := by rw [← hY]; simp
  have y2 : Y.cell? ⟨w1.heap.size, 2, none⟩ = some (.int .i64 (upM (endM SZ n) (alM SZ n))) := by rw [← hY]; simp
  have y3 : Y.cell? ⟨w1.heap.size, 3, none⟩ = some (.int .i64 (alM SZ n)) := by rw [← hY]; simp
  have yt : Y.cell? ⟨tb, 0, none⟩ = some (.slice none 0 0) := by rw [hBY.cell (by exact hl1)]; exact ht1
  have yf : Y.frozen? ⟨tb, 0, none⟩ = false := by rw [hBY.frozen (by exact hl1)]; exact hf1
  have ytl : tb < Y.heap.size := by omega
  have ytn : tb ≠ Y.heap.size := by omega
  have yxl : w1.heap.size < Y.heap.size := by omega
  have yxn : w1.heap.size ≠ Y.heap.size := by omega
  have HBY := Lib.hid hBY
  have HSY := Lib.hid hsY
  have HL1 := Lib.hid hl1
  clear hY hBY hsY ht1 hf1 hl1
  go_cut [10] (fun s10 wx => s10 = .pointer (some ⟨w1.heap.size, 0, none⟩) ∧ NewRec tb Y g nm n c (upM (endM SZ n) (alM SZ n)) (alM SZ n) wx)
  case first =>
    go_region_law
      (first
        | ((refine step_append_lies _ (by rfl) _ _ _ (by rfl) Y.heap.size 73 i0 (.agg #[.string ⟨#[]⟩, .slice none 0 0, .int .i64 0, .int .i64 0]) 4 56 Tryd.underlying53 I1.out I2.out I3.out I4.out rfl (by omega) (.slice none 0 0) 0 [] (by rfl) (World.ownsRow_nil _ _ _ _)
                  ⟨Y.heap.size, 0, none⟩ 1 1 [.string nm, .slice (some ⟨g, 0, none⟩) n c, .int .i64 (upM (endM SZ n) (alM SZ n)), .int .i64 (alM SZ n)] (by rfl) (by rfl) (World.news_of_block (cs := #[.string nm, .slice (some ⟨g, 0, none⟩) n c, .int .i64 (upM (endM SZ n) (alM SZ n)), .int .i64 (alM SZ n)]) (t := 73) (fr := (0, 0)) (heap_alloc_new Y _)) (by simp [Value.oneCell'])
                  (by omega) (by unfold maxLen; omega) (by omega) (by simp) (Y.heap.size + 1) (by simp) ?_)
           intro gg cap w2 hown2 hgrow hat hlt2
           have HG := Lib.hid hgrow
           have HOWN2 := Lib.hid hown2
           have HAT := Lib.hid hat
           have ht2 : w2.cell? ⟨tb, 0, none⟩ = some (.slice none 0 0) := by rw [hgrow.cell_far _ (by simp; omega) (by simp [Value.ownBlock])]; exact (((Below.refl Y.heap.size Y).alloc (Nat.le_refl _) _).drew.cell (p := ⟨tb, 0, none⟩) ytl).trans yt
           have hf2 : w2.frozen? ⟨tb, 0, none⟩ = false := by rw [hgrow.frozen_far _ (by simp; omega) (by simp [Value.ownBlock])]; exact (((Below.refl Y.heap.size Y).alloc (Nat.le_refl _) _).drew.frozen (p := ⟨tb, 0, none⟩) ytl).trans yf
           clear hown2 hgrow hat))
    all_goals
      go_wp2_with fail
      go_meet
      have hgg : gg = Y.heap.size + 1 := by have := HAT.out; simpa [Value.ownBlock] using this
      have hgrow := HG.out
      have hcs : ∀ b, b < Y.heap.size → ∀ o, w2.cell? ⟨b, o, none⟩ = Y.cell? ⟨b, o, none⟩ := fun b hb o => by
        rw [hgrow.cell_far _ (by simp; omega) (by simp [Value.ownBlock])]
        exact ((Below.refl Y.heap.size Y).alloc (Nat.le_refl _) _).drew.cell (p := ⟨b, o, none⟩) hb
      have hcg : ∀ j, j < 4 → w2.cell? ⟨gg, j, none⟩ = [Value.string nm, .slice (some ⟨g, 0, none⟩) n c, .int .i64 (upM (endM SZ n) (alM SZ n)), .int .i64 (alM SZ n)][j]? := fun j hj => by
        rw [HOWN2.out.cellAt j (by omega)]; simp
      have htg : gg ≠ tb := by omega
      have hset : ∀ b, b ≠ tb → ∀ o u, (w2.setCell ⟨tb, 0, none⟩ u).cell? ⟨b, o, none⟩ = w2.cell? ⟨b, o, none⟩ := fun b hb o u => World.cell?_of_block (Below.heap_setCell w2 _ u b hb)
      refine ⟨rfl, gg, cap, ⟨?_, ?_, ?_, ?_, ?_⟩, ?_, ?_, ?_⟩
      · simp [go_sem, ht2]
      · rw [hset _ htg, hcg 0 (by omega)]; rfl
      · rw [hset _ htg, hcg 1 (by omega)]; rfl
      · rw [hset _ htg, hcg 2 (by omega)]; rfl
      · rw [hset _ htg, hcg 3 (by omega)]; rfl
      · have := hgrow.size; simp at this; simp; omega
      · have b0 : Below tb Y (Y.alloc (.cells #[.string nm, .slice (some ⟨g, 0, none⟩) n c, .int .i64 (upM (endM SZ n) (alM SZ n)), .int .i64 (alM SZ n)] 73)).drew := ((Below.refl tb Y).alloc (by omega) _).drew
        exact (b0.grown hgrow (by simp; omega) (fun k h => by simp [Value.ownBlock] at h)).setCell (by simp) _
      · intro b hb hbt o
        rw [hset _ hbt, hcs b hb]
  case rest =>
    obtain ⟨rfl, rb, rc, htab, hsz, hbt, hfr⟩ := hcut
    have HT := Lib.hid htab
    have hc0 := htab.t
    have HSZ := Lib.hid hsz
    have HBT := Lib.hid hbt
    have HFR := Lib.hid hfr
    clear htab hsz hbt hfr y0 y1 y2 y3 yt yf
    go_wp2
    go_ret2
    have hs1 := HSZ.out
    have hs2 := HSY.out
    have hg1 := HG1.out
    have hg2 := HG2.out
    have hw1 := HB.out.size
    refine ⟨rb, rc, g, c, rfl, HT.out, ?_, by omega, by omega, ?_⟩
    · have h1 : FRow Y g n NM SZ (offs SZ) := HROW.out.below HBY.out (by omega)
      intro k hk
      obtain ⟨q0, q1, q2, q3, q4, q5, q6, q7, q8, q9, q10⟩ := h1 k hk
      constructor <;> (rw [HFR.out g (by omega) (by omega)]; assumption)
    · exact ((HB.out.mono (by omega)).trans (HBY.out.mono (by omega))).trans HBT.out
end Go.Proofs.YtoajcggiccfaiaaDoor
