import Derived.Test.YtdkhanjfncbfnaaOsLI
import Derived.Test.YtdkhanjfncbfnaaOsN
namespace Go.Proofs.Ytdkhanjfncbfnaa
open Go Go.RowKit
set_option linter.unusedVariables false
set_option linter.unusedSimpArgs false

/-- What lies behind a type's pointer. -/
def ElW (w : World) (t : Ty) (el : Option Addr) : Prop := ElIn w (fun b => b < w.heap.size) t el
theorem ElW.below {w w' : World} {t : Ty} {el : Option Addr} (h : ElW w t el) (hb : Below w.heap.size w w') : ElW w' t el :=
  ElIn.keep (fun b hp o => hb.cell (p := ⟨b, o, none⟩) hp) (fun b hp => Nat.lt_of_lt_of_le hp hb.size) h
theorem ElW.elG {w w' : World} {t : Ty} {el : Option Addr} (h : ElW w t el) (hb : Below w.heap.size w w') (g : Nat) (hg : w.heap.size ≤ g) : ElG w' g t el :=
  ElIn.keep (fun b hp o => hb.cell (p := ⟨b, o, none⟩) hp) (fun b hp => ⟨Nat.lt_of_lt_of_le hp hb.size, by omega⟩) h
theorem size_w {T : Tb} {hi : Nat} (hl : LayT T) (t : Ty) (ok : OkT t) (el : Option Addr) (w : World) (h : TabK T hi w) (he : ElW w t el) :
    Calls Try.prog 16 #[.pointer (some ⟨T.tb, 0, none⟩), tyV t el] w (CIntRes (sizeM T.n T.SZ t) w) :=
  size_k hl t ok el w h w.heap.size (he.elG (Below.refl _ _) _ (Nat.le_refl _))

set_option maxRecDepth 100000 in
set_option maxHeartbeats 8000000 in
theorem labels_pos (T : Tb) (hlay : LayT T) (t : Ty) (ok : OkT t) (LF : Nat → Bool) (hm : MarkOk T t LF) (N hi : Nat) (hN : sizeM T.n T.SZ t = N) (h0 : 0 < N) (hcap : N ≤ 1000000) (el : Option Addr) (w : World) (hk : TabK T hi w) (he : ElW w t el) :
    Calls Try.prog 18 #[.pointer (some ⟨T.tb, 0, none⟩), tyV t el] w fun e w' => ∃ g, e = .returned (.slice (some ⟨g, 0, none⟩) N N) ∧ w.heap.size ≤ g ∧ g < w'.heap.size ∧ Labs w' g 0 N LF ∧ Below w.heap.size w w' := by
  have HK := Lib.hid hk
  have HE := Lib.hid he
  have HM := Lib.hid hm
  have HN := Lib.hid hN
  have hmk := fun w => make_bools N (by omega) w
  have hp1 : ¬ (N : Int) ≤ 0 := by omega
  have hp2 : ¬ 2147483647 < (N : Int) := by omega
  clear hk he hm hN
  unfold tyV
  go_enter Try.func18, Try.ntmps18
  go_wp2_with fail
  obtain ⟨W0, hW0⟩ : ∃ W0, W0 = w.alloc (.cells #[.int .i64 t.kind, .int .i64 t.size, .bool t.sg, .bool t.sc, .pointer el, .int .i64 t.len, .int .i64 t.num, .slice none 0 0, .pointer none] 57) := ⟨_, rfl⟩
  rw [← hW0]
  have hb0 : Below w.heap.size w W0 := by rw [hW0]; exact (Below.refl _ _).alloc (Nat.le_refl _) _
  have HX9 : Hid (W0.cell? ⟨w.heap.size, 0, none⟩ = some (.int .i64 t.kind) ∧ W0.cell? ⟨w.heap.size, 1, none⟩ = some (.int .i64 t.size) ∧ W0.cell? ⟨w.heap.size, 2, none⟩ = some (.bool t.sg) ∧ W0.cell? ⟨w.heap.size, 3, none⟩ = some (.bool t.sc) ∧ W0.cell? ⟨w.heap.size, 4, none⟩ = some (.pointer el) ∧ W0.cell? ⟨w.heap.size, 5, none⟩ = some (.int .i64 t.len) ∧ W0.cell? ⟨w.heap.size, 6, none⟩ = some (.int .i64 t.num) ∧ W0.cell? ⟨w.heap.size, 7, none⟩ = some (.slice none 0 0) ∧ W0.cell? ⟨w.heap.size, 8, none⟩ = some (.pointer none)) := Lib.hid (by rw [hW0]; exact ⟨cell_new _ _ _ _ _ rfl, cell_new _ _ _ _ _ rfl, cell_new _ _ _ _ _ rfl, cell_new _ _ _ _ _ rfl, cell_new _ _ _ _ _ rfl, cell_new _ _ _ _ _ rfl, cell_new _ _ _ _ _ rfl, cell_new _ _ _ _ _ rfl, cell_new _ _ _ _ _ rfl⟩)
  have HB0 := Lib.hid hb0
  have hsz := size_w hlay t ok el W0 (HK.out.below hb0) (HE.out.below hb0)
  rw [HN.out] at hsz
  unfold tyV at hsz
  have HSZ := Lib.hid hsz
  clear hW0 hb0 hsz
  (with_reducible refine HSZ.out.mono ?_)
  rintro e w1 ⟨rfl, hb1⟩
  have HB1 : Hid (Below w.heap.size w w1) := Lib.hid (HB0.out.trans (hb1.mono HB0.out.size))
  have HX1 : Hid (w1.cell? ⟨w.heap.size, 0, none⟩ = some (.int .i64 t.kind) ∧ w1.cell? ⟨w.heap.size, 1, none⟩ = some (.int .i64 t.size) ∧ w1.cell? ⟨w.heap.size, 2, none⟩ = some (.bool t.sg) ∧ w1.cell? ⟨w.heap.size, 3, none⟩ = some (.bool t.sc) ∧ w1.cell? ⟨w.heap.size, 4, none⟩ = some (.pointer el) ∧ w1.cell? ⟨w.heap.size, 5, none⟩ = some (.int .i64 t.len) ∧ w1.cell? ⟨w.heap.size, 6, none⟩ = some (.int .i64 t.num) ∧ w1.cell? ⟨w.heap.size, 7, none⟩ = some (.slice none 0 0) ∧ w1.cell? ⟨w.heap.size, 8, none⟩ = some (.pointer none)) := Lib.hid (by
    obtain ⟨x0, x1, x2, x3, x4, x5, x6, x7, x8⟩ := HX9.out
    exact ⟨by rw [hb1.cell (by exact lt_of_cellC x0)]; exact x0, by rw [hb1.cell (by exact lt_of_cellC x0)]; exact x1, by rw [hb1.cell (by exact lt_of_cellC x0)]; exact x2, by rw [hb1.cell (by exact lt_of_cellC x0)]; exact x3, by rw [hb1.cell (by exact lt_of_cellC x0)]; exact x4, by rw [hb1.cell (by exact lt_of_cellC x0)]; exact x5, by rw [hb1.cell (by exact lt_of_cellC x0)]; exact x6, by rw [hb1.cell (by exact lt_of_cellC x0)]; exact x7, by rw [hb1.cell (by exact lt_of_cellC x0)]; exact x8⟩)
  clear hb1
  go_upto_region 5 with fail
  obtain ⟨W2, hW2⟩ : ∃ W2, W2 = w1.alloc (.cells (madeCells #[.bool false] N) 4) := ⟨_, rfl⟩
  obtain ⟨g, hg⟩ : ∃ g, g = w1.heap.size := ⟨_, rfl⟩
  rw [← hW2, ← hg]
  have hb12 : Below w1.heap.size w1 W2 := by rw [hW2]; exact (Below.refl _ _).alloc (Nat.le_refl _) _
  have hb2 : Below w.heap.size w W2 := HB1.out.trans (hb12.mono HB1.out.size)
  have hla : Labs W2 g 0 N (fun _ => false) := by rw [hg]; exact labs_new w1 W2 N hW2
  have hgl : g < W2.heap.size := by rw [hg, hW2]; simp
  have hgw : w.heap.size ≤ g := by rw [hg]; exact HB1.out.size
  have hfz : ∀ j, W2.frozen? ⟨g, j, none⟩ = false := fun j => by rw [hW2]; exact frozen_new _ _ _ _ _ hg
  have hmm := HM.out N hi g 0 N el W2 HN.out (Nat.le_refl _) hcap (HK.out.below hb2) (Nat.le_trans HK.out.hl hgw) hgl (HE.out.elG hb2 g hgw) hla hfz
  unfold tyV at hmm
  have HMM := Lib.hid hmm
  have HB2 := Lib.hid hb2
  have HG := Lib.hid (And.intro hgw hgl)
  obtain ⟨x0, x1, x2, x3, x4, x5, x6, x7, x8⟩ : W2.cell? ⟨w.heap.size, 0, none⟩ = some (.int .i64 t.kind) ∧ W2.cell? ⟨w.heap.size, 1, none⟩ = some (.int .i64 t.size) ∧ W2.cell? ⟨w.heap.size, 2, none⟩ = some (.bool t.sg) ∧ W2.cell? ⟨w.heap.size, 3, none⟩ = some (.bool t.sc) ∧ W2.cell? ⟨w.heap.size, 4, none⟩ = some (.pointer el) ∧ W2.cell? ⟨w.heap.size, 5, none⟩ = some (.int .i64 t.len) ∧ W2.cell? ⟨w.heap.size, 6, none⟩ = some (.int .i64 t.num) ∧ W2.cell? ⟨w.heap.size, 7, none⟩ = some (.slice none 0 0) ∧ W2.cell? ⟨w.heap.size, 8, none⟩ = some (.pointer none) := by
    obtain ⟨x0, x1, x2, x3, x4, x5, x6, x7, x8⟩ := HX1.out
    exact ⟨by rw [hb12.cell (by exact lt_of_cellC x0)]; exact x0, by rw [hb12.cell (by exact lt_of_cellC x0)]; exact x1, by rw [hb12.cell (by exact lt_of_cellC x0)]; exact x2, by rw [hb12.cell (by exact lt_of_cellC x0)]; exact x3, by rw [hb12.cell (by exact lt_of_cellC x0)]; exact x4, by rw [hb12.cell (by exact lt_of_cellC x0)]; exact x5, by rw [hb12.cell (by exact lt_of_cellC x0)]; exact x6, by rw [hb12.cell (by exact lt_of_cellC x0)]; exact x7, by rw [hb12.cell (by exact lt_of_cellC x0)]; exact x8⟩
  clear hW2 hg hb12 hb2 hla hgl hgw hfz hmm hmk
  go_wp2_with fail
  (with_reducible refine HMM.out.mono ?_)
  rintro e w3 ⟨rfl, ht3, hl3, ho3⟩
  have HT3 := Lib.hid ht3
  have HL3 := Lib.hid hl3
  clear ht3 hl3 ho3 x0 x1 x2 x3 x4 x5 x6 x7 x8
  go_wp2_with fail
  go_ret
  exact ⟨g, rfl, HG.out.1, Nat.lt_of_lt_of_le HG.out.2 HT3.out.size, HL3.out, HB2.out.trans (HT3.out.below HG.out.1 HB2.out.size)⟩

set_option maxRecDepth 100000 in
set_option maxHeartbeats 8000000 in
theorem labels_zero (T : Tb) (hlay : LayT T) (t : Ty) (ok : OkT t) (hi : Nat) (hN : sizeM T.n T.SZ t = 0) (el : Option Addr) (w : World) (hk : TabK T hi w) (he : ElW w t el) :
    Calls Try.prog 18 #[.pointer (some ⟨T.tb, 0, none⟩), tyV t el] w fun e w' => e = .returned (.slice none 0 0) ∧ Below w.heap.size w w' := by
  have HK := Lib.hid hk
  have HE := Lib.hid he
  have HN := Lib.hid hN
  clear hk he hN
  unfold tyV
  go_enter Try.func18, Try.ntmps18
  go_wp2_with fail
  have hb0 : Below w.heap.size w (w.alloc (.cells #[.int .i64 t.kind, .int .i64 t.size, .bool t.sg, .bool t.sc, .pointer el, .int .i64 t.len, .int .i64 t.num, .slice none 0 0, .pointer none] 57)) := (Below.refl _ _).alloc (Nat.le_refl _) _
  have hsz := size_w hlay t ok el _ (HK.out.below hb0) (HE.out.below hb0)
  rw [HN.out] at hsz
  unfold tyV at hsz
  (with_reducible refine hsz.mono ?_)
  rintro e w1 ⟨rfl, hb1⟩
  have HB1 : Hid (Below w.heap.size w w1) := Lib.hid (hb0.trans (hb1.mono hb0.size))
  clear hb0 hb1 hsz
  go_wp2_with fail
  go_ret
  exact ⟨rfl, HB1.out⟩
end Go.Proofs.Ytdkhanjfncbfnaa
