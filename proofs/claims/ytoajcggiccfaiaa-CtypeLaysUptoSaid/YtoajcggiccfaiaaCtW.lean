import Derived.Test.YtoajcggiccfaiaaCtV
import Derived.StillTailTactics
namespace Go.Proofs.Ytoajcggiccfaiaa
open Go Go.RowKit

set_option maxHeartbeats 4000000 in
set_option maxRecDepth 100000 in
theorem rsame_fun (p r q s lim : Nat) (t1 t2 t0 u1 u2 u0 : Ty) (e1 e2 e0 x1 x2 x0 : Option Addr) (w : World) (hf : Fun9 w p r lim t1 t2 t0 e1 e2 e0) (hg : Fun9 w q s lim u1 u2 u0 x1 x2 x0) :
    Calls Try.prog 20 #[fnV p r, fnV q s] w (BoolRes ((sameT t1 u1 && sameT t2 u2) && sameT t0 u0) w) := by
  have HF := Lib.hid hf
  have HG := Lib.hid hg
  clear hf hg
  unfold fnV
  go_enter Try.func20, Try.ntmps20
  go_wp2_with fail
  have HBW0 : Below w.heap.size w ((w.alloc (.cells #[.int .i64 5, .int .i64 0, .bool false, .bool false, .pointer none, .int .i64 0, .int .i64 0, .slice (some ⟨p, 0, none⟩) 2 2, .pointer (some ⟨r, 0, none⟩)] 38)).alloc (.cells #[.int .i64 5, .int .i64 0, .bool false, .bool false, .pointer none, .int .i64 0, .int .i64 0, .slice (some ⟨q, 0, none⟩) 2 2, .pointer (some ⟨s, 0, none⟩)] 38)) := ((Below.refl _ _).alloc (Nat.le_refl _) _).alloc (by simp) _
  have hsz0 : ((w.alloc (.cells #[.int .i64 5, .int .i64 0, .bool false, .bool false, .pointer none, .int .i64 0, .int .i64 0, .slice (some ⟨p, 0, none⟩) 2 2, .pointer (some ⟨r, 0, none⟩)] 38)).alloc (.cells #[.int .i64 5, .int .i64 0, .bool false, .bool false, .pointer none, .int .i64 0, .int .i64 0, .slice (some ⟨q, 0, none⟩) 2 2, .pointer (some ⟨s, 0, none⟩)] 38)).heap.size = w.heap.size + 2 := by simp
  have p7 : ((w.alloc (.cells #[.int .i64 5, .int .i64 0, .bool false, .bool false, .pointer none, .int .i64 0, .int .i64 0, .slice (some ⟨p, 0, none⟩) 2 2, .pointer (some ⟨r, 0, none⟩)] 38)).alloc (.cells #[.int .i64 5, .int .i64 0, .bool false, .bool false, .pointer none, .int .i64 0, .int .i64 0, .slice (some ⟨q, 0, none⟩) 2 2, .pointer (some ⟨s, 0, none⟩)] 38)).cell? ⟨w.heap.size, 7, none⟩ = some (.slice (some ⟨p, 0, none⟩) 2 2) := by simp
  have q7 : ((w.alloc (.cells #[.int .i64 5, .int .i64 0, .bool false, .bool false, .pointer none, .int .i64 0, .int .i64 0, .slice (some ⟨p, 0, none⟩) 2 2, .pointer (some ⟨r, 0, none⟩)] 38)).alloc (.cells #[.int .i64 5, .int .i64 0, .bool false, .bool false, .pointer none, .int .i64 0, .int .i64 0, .slice (some ⟨q, 0, none⟩) 2 2, .pointer (some ⟨s, 0, none⟩)] 38)).cell? ⟨w.heap.size + 1, 7, none⟩ = some (.slice (some ⟨q, 0, none⟩) 2 2) := by simp
  have p8 : ((w.alloc (.cells #[.int .i64 5, .int .i64 0, .bool false, .bool false, .pointer none, .int .i64 0, .int .i64 0, .slice (some ⟨p, 0, none⟩) 2 2, .pointer (some ⟨r, 0, none⟩)] 38)).alloc (.cells #[.int .i64 5, .int .i64 0, .bool false, .bool false, .pointer none, .int .i64 0, .int .i64 0, .slice (some ⟨q, 0, none⟩) 2 2, .pointer (some ⟨s, 0, none⟩)] 38)).cell? ⟨w.heap.size, 8, none⟩ = some (.pointer (some ⟨r, 0, none⟩)) := by simp
  have q8 : ((w.alloc (.cells #[.int .i64 5, .int .i64 0, .bool false, .bool false, .pointer none, .int .i64 0, .int .i64 0, .slice (some ⟨p, 0, none⟩) 2 2, .pointer (some ⟨r, 0, none⟩)] 38)).alloc (.cells #[.int .i64 5, .int .i64 0, .bool false, .bool false, .pointer none, .int .i64 0, .int .i64 0, .slice (some ⟨q, 0, none⟩) 2 2, .pointer (some ⟨s, 0, none⟩)] 38)).cell? ⟨w.heap.size + 1, 8, none⟩ = some (.pointer (some ⟨s, 0, none⟩)) := by simp
  generalize (w.alloc (.cells #[.int .i64 5, .int .i64 0, .bool false, .bool false, .pointer none, .int .i64 0, .int .i64 0, .slice (some ⟨p, 0, none⟩) 2 2, .pointer (some ⟨r, 0, none⟩)] 38)).alloc (.cells #[.int .i64 5, .int .i64 0, .bool false, .bool false, .pointer none, .int .i64 0, .int .i64 0, .slice (some ⟨q, 0, none⟩) 2 2, .pointer (some ⟨s, 0, none⟩)] 38) = W at HBW0 hsz0 p7 q7 p8 q8 ⊢
  have HFW := Lib.hid (HF.out.below HBW0)
  have HGW := Lib.hid (HG.out.below HBW0)
  have HBW := Lib.hid HBW0
  have HSZ := Lib.hid hsz0
  have hw0 : w.heap.size < W.heap.size := by omega
  have hw1 : w.heap.size + 1 < W.heap.size := by omega
  have hpl : p < W.heap.size := HFW.out.ps.lt
  have hql : q < W.heap.size := HGW.out.ps.lt
  have hrl : r < W.heap.size := HFW.out.lt
  have hsl : s < W.heap.size := HGW.out.lt
  clear HBW0 hsz0
  refine wp_loop_rounds 3 ?_
  rw [rounds_succ]
  obtain ⟨a0, a1, a2, a3, a4, a5, a6, a7, a8⟩ := (HFW.out).ps.a
  obtain ⟨b0, b1, b2, b3, b4, b5, b6, b7, b8⟩ := (HGW.out).ps.a
  simp only [Nat.zero_add] at a0 a1 a2 a3 a4 a5 a6 a7 a8 b0 b1 b2 b3 b4 b5 b6 b7 b8
  have HEA : Hid (ElAt W.drew 0 W.drew.heap.size t1 e1) := Lib.hid ((((HFW.out).below ((Below.refl _ _).drew)).ps.x).mono (Nat.le_refl _) ((HFW.out).below ((Below.refl _ _).drew)).ps.le)
  have HEB : Hid (ElAt W.drew 0 W.drew.heap.size u1 x1) := Lib.hid ((((HGW.out).below ((Below.refl _ _).drew)).ps.x).mono (Nat.le_refl _) ((HGW.out).below ((Below.refl _ _).drew)).ps.le)
  go_wp2_with fail
  go_still_tail 10, (by kernel_rfl)
  change wpList _ _ _ _ _ W.drew
  go_wp2_with fail
  refine (rsame_any t1 u1 e1 x1 _ HEA.out HEB.out).mono ?_
  rintro e w1 ⟨rfl, hb⟩
  have HBw1 : Hid (Below W.heap.size W w1) := Lib.hid ((Below.refl _ _).drew.trans hb)
  clear hb HEA HEB a0 a1 a2 a3 a4 a5 a6 a7 a8 b0 b1 b2 b3 b4 b5 b6 b7 b8
  cases hs1 : sameT t1 u1 with
  | false =>
    have HS1 := Lib.hid hs1
    clear hs1
    go_wp2_with fail
    go_ret
    exact ⟨by rw [HS1.out]; rfl, HBW.out.trans (HBw1.out.mono (by have := HSZ.out; omega))⟩
  | true =>
    have HS1 := Lib.hid hs1
    clear hs1
    have HFw1 := Lib.hid (HFW.out.below HBw1.out)
    have HGw1 := Lib.hid (HGW.out.below HBw1.out)
    have hzw1 : W.heap.size ≤ w1.heap.size := HBw1.out.size
    have HBWw1 := Lib.hid (HBW.out.trans (HBw1.out.mono (by omega)))
    have p7w1 : w1.cell? ⟨w.heap.size, 7, none⟩ = some (.slice (some ⟨p, 0, none⟩) 2 2) := by rw [HBw1.out.cell (by simp; omega)]; exact p7
    have q7w1 : w1.cell? ⟨w.heap.size + 1, 7, none⟩ = some (.slice (some ⟨q, 0, none⟩) 2 2) := by rw [HBw1.out.cell (by simp; omega)]; exact q7
    have p8w1 : w1.cell? ⟨w.heap.size, 8, none⟩ = some (.pointer (some ⟨r, 0, none⟩)) := by rw [HBw1.out.cell (by simp; omega)]; exact p8
    have q8w1 : w1.cell? ⟨w.heap.size + 1, 8, none⟩ = some (.pointer (some ⟨s, 0, none⟩)) := by rw [HBw1.out.cell (by simp; omega)]; exact q8
    have hw0w1 : w.heap.size < w1.heap.size := by omega
    have hw1w1 : w.heap.size + 1 < w1.heap.size := by omega
    have hplw1 : p < w1.heap.size := by omega
    have hqlw1 : q < w1.heap.size := by omega
    have hrlw1 : r < w1.heap.size := by omega
    have hslw1 : s < w1.heap.size := by omega
    go_wp2_with fail
    rw [rounds_succ]
    obtain ⟨a0, a1, a2, a3, a4, a5, a6, a7, a8⟩ := (HFw1.out).ps.b
    obtain ⟨b0, b1, b2, b3, b4, b5, b6, b7, b8⟩ := (HGw1.out).ps.b
    simp only [Nat.reduceAdd] at a0 a1 a2 a3 a4 a5 a6 a7 a8 b0 b1 b2 b3 b4 b5 b6 b7 b8
    have HEA : Hid (ElAt w1.drew 0 w1.drew.heap.size t2 e2) := Lib.hid ((((HFw1.out).below ((Below.refl _ _).drew)).ps.y).mono (Nat.le_refl _) ((HFw1.out).below ((Below.refl _ _).drew)).ps.le)
    have HEB : Hid (ElAt w1.drew 0 w1.drew.heap.size u2 x2) := Lib.hid ((((HGw1.out).below ((Below.refl _ _).drew)).ps.y).mono (Nat.le_refl _) ((HGw1.out).below ((Below.refl _ _).drew)).ps.le)
    go_wp2_with fail
    go_still_tail 10, (by kernel_rfl)
    change wpList _ _ _ _ _ w1.drew
    go_wp2_with fail
    refine (rsame_any t2 u2 e2 x2 _ HEA.out HEB.out).mono ?_
    rintro e w2 ⟨rfl, hb⟩
    have HBw2 : Hid (Below w1.heap.size w1 w2) := Lib.hid ((Below.refl _ _).drew.trans hb)
    clear hb HEA HEB a0 a1 a2 a3 a4 a5 a6 a7 a8 b0 b1 b2 b3 b4 b5 b6 b7 b8
    cases hs2 : sameT t2 u2 with
    | false =>
      have HS2 := Lib.hid hs2
      clear hs2
      have HFw2 := Lib.hid (HFw1.out.below HBw2.out)
      have HGw2 := Lib.hid (HGw1.out.below HBw2.out)
      have hzw2 : w1.heap.size ≤ w2.heap.size := HBw2.out.size
      have HBWw2 := Lib.hid (HBWw1.out.trans (HBw2.out.mono (by omega)))
      have p7w2 : w2.cell? ⟨w.heap.size, 7, none⟩ = some (.slice (some ⟨p, 0, none⟩) 2 2) := by rw [HBw2.out.cell (by simp; omega)]; exact p7w1
      have q7w2 : w2.cell? ⟨w.heap.size + 1, 7, none⟩ = some (.slice (some ⟨q, 0, none⟩) 2 2) := by rw [HBw2.out.cell (by simp; omega)]; exact q7w1
      have p8w2 : w2.cell? ⟨w.heap.size, 8, none⟩ = some (.pointer (some ⟨r, 0, none⟩)) := by rw [HBw2.out.cell (by simp; omega)]; exact p8w1
      have q8w2 : w2.cell? ⟨w.heap.size + 1, 8, none⟩ = some (.pointer (some ⟨s, 0, none⟩)) := by rw [HBw2.out.cell (by simp; omega)]; exact q8w1
      have hw0w2 : w.heap.size < w2.heap.size := by omega
      have hw1w2 : w.heap.size + 1 < w2.heap.size := by omega
      have hplw2 : p < w2.heap.size := by omega
      have hqlw2 : q < w2.heap.size := by omega
      have hrlw2 : r < w2.heap.size := by omega
      have hslw2 : s < w2.heap.size := by omega
      go_wp2_with fail
      go_ret
      exact ⟨by rw [HS1.out, HS2.out]; rfl, HBWw2.out⟩
    | true =>
      have HS2 := Lib.hid hs2
      clear hs2
      have HFw2 := Lib.hid (HFw1.out.below HBw2.out)
      have HGw2 := Lib.hid (HGw1.out.below HBw2.out)
      have hzw2 : w1.heap.size ≤ w2.heap.size := HBw2.out.size
      have HBWw2 := Lib.hid (HBWw1.out.trans (HBw2.out.mono (by omega)))
      have p7w2 : w2.cell? ⟨w.heap.size, 7, none⟩ = some (.slice (some ⟨p, 0, none⟩) 2 2) := by rw [HBw2.out.cell (by simp; omega)]; exact p7w1
      have q7w2 : w2.cell? ⟨w.heap.size + 1, 7, none⟩ = some (.slice (some ⟨q, 0, none⟩) 2 2) := by rw [HBw2.out.cell (by simp; omega)]; exact q7w1
      have p8w2 : w2.cell? ⟨w.heap.size, 8, none⟩ = some (.pointer (some ⟨r, 0, none⟩)) := by rw [HBw2.out.cell (by simp; omega)]; exact p8w1
      have q8w2 : w2.cell? ⟨w.heap.size + 1, 8, none⟩ = some (.pointer (some ⟨s, 0, none⟩)) := by rw [HBw2.out.cell (by simp; omega)]; exact q8w1
      have hw0w2 : w.heap.size < w2.heap.size := by omega
      have hw1w2 : w.heap.size + 1 < w2.heap.size := by omega
      have hplw2 : p < w2.heap.size := by omega
      have hqlw2 : q < w2.heap.size := by omega
      have hrlw2 : r < w2.heap.size := by omega
      have hslw2 : s < w2.heap.size := by omega
      go_wp2_with fail
      rw [rounds_succ]
      obtain ⟨a0, a1, a2, a3, a4, a5, a6, a7, a8⟩ := HFw2.out.c
      obtain ⟨b0, b1, b2, b3, b4, b5, b6, b7, b8⟩ := HGw2.out.c
      simp only [Nat.zero_add] at a0 a1 a2 a3 a4 a5 a6 a7 a8 b0 b1 b2 b3 b4 b5 b6 b7 b8
      have HEA : Hid (ElAt w2.drew 0 w2.drew.heap.size t0 e0) := Lib.hid (HFw2.out.below ((Below.refl _ _).drew)).el
      have HEB : Hid (ElAt w2.drew 0 w2.drew.heap.size u0 x0) := Lib.hid (HGw2.out.below ((Below.refl _ _).drew)).el
      go_wp2_with fail
      go_still_tail 8, (by kernel_rfl)
      change wpList _ _ _ _ _ w2.drew
      go_wp2_with fail
      refine (rsame_any t0 u0 e0 x0 _ HEA.out HEB.out).mono ?_
      rintro e w3 ⟨rfl, hb⟩
      have HB3 : Hid (Below w2.heap.size w2 w3) := Lib.hid ((Below.refl _ _).drew.trans hb)
      clear hb
      go_wp2_with fail
      go_ret
      exact ⟨by rw [HS1.out, HS2.out]; rfl, HBWw2.out.trans (HB3.out.mono (by omega))⟩
end Go.Proofs.Ytoajcggiccfaiaa
