import Derived.Test.YtdkhanjfncbfnaaCtCI
namespace Go.Proofs.Ytdkhanjfncbfnaa
open Go Go.RowKit
set_option linter.unusedVariables false
set_option linter.unusedSimpArgs false

set_option maxHeartbeats 2000000 in
theorem layOut_none (tb : Nat) (w : World) :
    Calls Try.prog 38 #[.pointer (some ⟨tb, 0, none⟩), .slice none 0 0] w (TupRes (.tuple #[.agg #[.string ⟨#[]⟩, .slice none 0 0, .int .i64 0, .int .i64 0], .int .i64 14]) w) := by
  go_enter Try.func38, Try.ntmps38
  go_wp2_with fail
  refine wp_loop_rounds 1 ?_; rw [rounds_succ]
  go_wp2
  have hbw := Below.refl w.heap.size w
  refine bodyPost_ret (v := .tuple #[.agg #[.string ⟨#[]⟩, .slice none 0 0, .int .i64 0, .int .i64 0], .int .i64 14]) ?_ rfl ⟨rfl, ?_⟩
  · simp [results, Try.results38, go_sem]
  · ((repeat (first | (with_reducible exact hbw) | (with_reducible apply Below.setCell) | (with_reducible apply Below.alloc))) <;> first | omega | (simp <;> omega))

set_option maxHeartbeats 2000000 in
theorem add_fault (tb base n : Nat) (hn : n < 20) (va : Value) (SN : Nat → ByteArray) (FA : Nat → Option Addr) (FN FC : Nat → Nat) (SZ AL : Nat → Int) (nm : ByteArray) (fa : Option Addr) (m fc : Nat) (hm : m ≤ 20) (code : Int) (h0 : (code == 0) = false) (hne : ∀ k, k < n → ((SN k).toList == nm.toList) = false) (w : World) (ht : TabW w tb base va n SN FA FN FC SZ AL)
    (hlay : ∀ w1 : World, Below w.heap.size w w1 → Calls Try.prog 38 #[.pointer (some ⟨tb, 0, none⟩), .slice fa m fc] w1 (TupRes (.tuple #[.agg #[.string ⟨#[]⟩, .slice none 0 0, .int .i64 0, .int .i64 0], .int .i64 code]) w1)) :
    Calls Try.prog 15 #[.pointer (some ⟨tb, 0, none⟩), .string nm, .slice fa m fc] w (TupRes (.tuple #[.int .i64 0, .int .i64 code]) w) := by
  obtain ⟨a, rb, rc, rfl, htn⟩ := ht.tab
  have htb := World.block_lt_of_cell? w _ ht.t
  simp at htb
  have HF := Lib.hid (find_no tb rb n rc (by omega) a SN FA FN FC SZ AL nm hne w htn)
  have HT := Lib.hid ht.t
  have HL := Lib.hid hlay
  clear htn ht hne hlay
  have d2 : ¬ 20 ≤ n := by omega
  have d3 : ¬ 20 < m := by omega
  go_enter Try.func15, Try.ntmps15
  go_wp2_with (first
    | (go_at_call 37
       refine HF.out.mono ?_
       rintro e w1 ⟨rfl, hb⟩
       have HB := Lib.hid hb
       have ht1 : w1.cell? ⟨tb, 0, none⟩ = some (.slice a n rc) := (by rw [hb.cell (by exact htb)]; exact HT.out)
       clear hb)
    | (go_at_call 38
       (with_reducible refine (HL.out _ HB.out).mono ?_)
       rintro e w2 ⟨rfl, hb⟩
       have HB2 : Hid (Below w.heap.size w w2) := Lib.hid (HB.out.trans (hb.mono HB.out.size))
       clear hb))
  all_goals
    go_ret2
    exact ⟨rfl, HB2.out.alloc HB2.out.size _⟩

set_option maxRecDepth 100000 in
set_option maxHeartbeats 8000000 in
theorem add_ok (tb base n : Nat) (hn : n < 20) (va : Value) (SN : Nat → ByteArray) (FA : Nat → Option Addr) (FN FC : Nat → Nat) (SZ AL : Nat → Int) (nm : ByteArray) (fa : Option Addr) (m fc : Nat) (hm : m ≤ 20) (NM : Nat → ByteArray) (TY : Nat → Ty) (hne : ∀ k, k < n → ((SN k).toList == nm.toList) = false) (w : World) (ht : TabW w tb base va n SN FA FN FC SZ AL) (hbase : base ≤ w.heap.size)
    (hbt : tb < base)
    (hlay : ∀ w1 : World, Below w.heap.size w w1 → Calls Try.prog 38 #[.pointer (some ⟨tb, 0, none⟩), .slice fa m fc] w1 (LayEnd n SZ AL m NM TY 0 w1)) :
    Calls Try.prog 15 #[.pointer (some ⟨tb, 0, none⟩), .string nm, .slice fa m fc] w (AddOk tb base n va SN FA FN FC SZ AL nm m NM TY w) := by
  obtain ⟨i0, hi, hz0, hz1, hz2⟩ := info_parts infoRec
  obtain ⟨a, rb, rc, hva, htn⟩ := ht.tab
  have htb := World.block_lt_of_cell? w _ ht.t
  simp at htb
  have HF := Lib.hid (find_no tb rb n rc (by omega) a SN FA FN FC SZ AL nm hne w htn)
  have HT := Lib.hid ht
  have htbr : va.ownBlock ≠ some tb := fun h => by have := (ht.o.lt tb h).1; omega
  have HL := Lib.hid hlay
  have hv1 : w.cell? ⟨tb, 0, none⟩ = some (.slice a n rc) := by rw [← hva]; exact ht.t
  have HV1 := Lib.hid hv1
  have I1 := Lib.hid hi
  have I2 := Lib.hid hz0
  have I3 := Lib.hid hz1
  have I4 := Lib.hid hz2
  clear htn ht hne hlay hv1 hi hz0 hz1 hz2
  have d2 : ¬ 20 ≤ n := by omega
  have d3 : ¬ 20 < m := by omega
  obtain ⟨sz, hsz⟩ : ∃ x, x = upM (endT n SZ AL TY m) (alT n AL TY m) := ⟨_, rfl⟩
  obtain ⟨al, hal⟩ : ∃ x, x = alT n AL TY m := ⟨_, rfl⟩
  unfold AddOk
  rw [← hsz, ← hal]
  have hLs : ∀ w1 : World, Below w.heap.size w w1 → Calls Try.prog 38 #[.pointer (some ⟨tb, 0, none⟩), .slice fa m fc] w1 (fun e w' => ∃ g c EL, e = .returned (.tuple #[.agg #[.string ⟨#[]⟩, .slice (some ⟨g, 0, none⟩) m c, .int .i64 sz, .int .i64 al], .int .i64 0]) ∧ Hid (GRow w' g m NM TY EL (offT n SZ AL TY)) ∧ w1.heap.size ≤ g ∧ g < w'.heap.size ∧ Hid (∀ i, i < m → ElIn w' (fun b => w1.heap.size ≤ b ∧ b < w'.heap.size) (TY i) (EL i)) ∧ Hid (Below w1.heap.size w1 w')) := by
    intro w1 hb
    refine (HL.out w1 hb).mono ?_
    rintro e w' (⟨_, g, c, EL, he, h1, h2, h3, h4, h5⟩ | ⟨h, _⟩)
    · exact ⟨g, c, EL, by rw [hsz, hal]; exact he, Lib.hid h1, h2, h3, Lib.hid h4, Lib.hid h5⟩
    · exact absurd rfl h
  have HLs := Lib.hid hLs
  have HSZ := Lib.hid hsz
  have HALD := Lib.hid hal
  have HVA := Lib.hid hva
  clear hLs hsz hal hva HL
  go_enter Try.func15, Try.ntmps15
  go_wp2_with (first
    | (go_at_call 37
       refine HF.out.mono ?_
       rintro e w1 ⟨rfl, hb⟩
       have HB := Lib.hid hb
       have ht1 : w1.cell? ⟨tb, 0, none⟩ = some (.slice a n rc) := (by rw [hb.cell (by exact htb)]; exact HV1.out)
       clear hb)
    | (go_at_call 38
       (with_reducible refine (HLs.out _ HB.out).mono ?_)
       rintro e w2 ⟨g, c, EL, rfl, HROW, hg1, hg2, HELS, hb⟩
       have HB12 := hb
       have HB2 : Hid (Below w.heap.size w w2) := Lib.hid (HB.out.trans (hb.out.mono HB.out.size))
       have HG1 := Lib.hid hg1
       have HG2 := Lib.hid hg2
       clear hb hg1 hg2 ht1))
  generalize hY : w2.alloc (.cells #[.string nm, .slice (some ⟨g, 0, none⟩) m c, .int .i64 sz, .int .i64 al] 110) = Y
  have hBY : Below w2.heap.size w2 Y := by rw [← hY]; exact (Below.refl _ _).alloc (Nat.le_refl _) _
  have hsY : Y.heap.size = w2.heap.size + 1 := by rw [← hY]; simp
  have y0 : Y.cell? ⟨w2.heap.size, 0, none⟩ = some (.string nm) := by rw [← hY]; simp
  have y1 : Y.cell? ⟨w2.heap.size, 1, none⟩ = some (.slice (some ⟨g, 0, none⟩) m c) := by rw [← hY]; simp
  have y2 : Y.cell? ⟨w2.heap.size, 2, none⟩ = some (.int .i64 sz) := by rw [← hY]; simp
  have y3 : Y.cell? ⟨w2.heap.size, 3, none⟩ = some (.int .i64 al) := by rw [← hY]; simp
  have hBwY : Below w.heap.size w Y := HB2.out.trans (hBY.mono HB2.out.size)
  have HTY := Lib.hid (HT.out.below hBwY)
  have yt : Y.cell? ⟨tb, 0, none⟩ = some va := HTY.out.t
  have yf : Y.frozen? ⟨tb, 0, none⟩ = false := HTY.out.f
  have hw12 : w.heap.size ≤ w2.heap.size := HB2.out.size
  have ytl : tb < Y.heap.size := by omega
  have ytn : tb ≠ Y.heap.size := by omega
  have yxl : w2.heap.size < Y.heap.size := by omega
  have yxn : w2.heap.size ≠ Y.heap.size := by omega
  have HBY := Lib.hid hBY
  have HSY := Lib.hid hsY
  have HBWY := Lib.hid hBwY
  have HROWL := Lib.hid (show ∀ g', va.ownBlock = some g' → base ≤ g' ∧ g' < w.heap.size from fun g' h => HT.out.o.lt g' h)
  clear hY hBY hsY hBwY
  go_cut [10] (fun s10 wx => s10 = .pointer (some ⟨w2.heap.size, 0, none⟩) ∧ NewRecT tb base n Y va SN FA FN FC SZ AL nm g m c sz al wx)
  case first =>
    go_region_law
      (first
        | ((refine step_append_lies _ (by rfl) _ _ _ (by rfl) base 110 i0 (.agg #[.string ⟨#[]⟩, .slice none 0 0, .int .i64 0, .int .i64 0]) 4 56 Try.underlying46 I1.out I2.out I3.out I4.out rfl (by omega) va n (recsL SN FA FN FC SZ AL n) (by rfl) (ownsRow_below HTY.out.o ((Below.refl _ _).alloc (Nat.le_refl _) _).drew)
                  ⟨Y.heap.size, 0, none⟩ 1 1 [.string nm, .slice (some ⟨g, 0, none⟩) m c, .int .i64 sz, .int .i64 al] (by rfl) (by rfl) (World.news_of_block (cs := #[.string nm, .slice (some ⟨g, 0, none⟩) m c, .int .i64 sz, .int .i64 al]) (t := 110) (fr := (0, 0)) (heap_alloc_new Y _)) (by simp [Value.oneCell'])
                  (by omega) (by unfold maxLen; omega) (by omega) (by simp; omega) (Y.heap.size + 1) (by simp) ?_)
           intro gg cap w3 hown3 hgrow hat hlt3
           have HG := Lib.hid hgrow
           have HOWN3 := Lib.hid hown3
           have HAT := Lib.hid hat
           have hnt : some tb ≠ va.ownBlock := fun h => htbr h.symm
           have ht3 : w3.cell? ⟨tb, 0, none⟩ = some va := by rw [hgrow.cell_far _ (by simp; omega) hnt]; exact (((Below.refl Y.heap.size Y).alloc (Nat.le_refl _) _).drew.cell (p := ⟨tb, 0, none⟩) ytl).trans yt
           have hf3 : w3.frozen? ⟨tb, 0, none⟩ = false := by rw [hgrow.frozen_far _ (by simp; omega) hnt]; exact (((Below.refl Y.heap.size Y).alloc (Nat.le_refl _) _).drew.frozen (p := ⟨tb, 0, none⟩) ytl).trans yf
           clear hown3 hgrow hat))
    all_goals
      go_wp2_with fail
      go_meet
      have hgrow := HG.out
      have hAl : Below Y.heap.size Y (Y.alloc (.cells #[.string nm, .slice (some ⟨g, 0, none⟩) m c, .int .i64 sz, .int .i64 al] 110)).drew := ((Below.refl Y.heap.size Y).alloc (Nat.le_refl _) _).drew
      have hcs : ∀ b, b < Y.heap.size → va.ownBlock ≠ some b → ∀ o, w3.cell? ⟨b, o, none⟩ = Y.cell? ⟨b, o, none⟩ := fun b hb hv o => by
        rw [hgrow.cell_far _ (by simp; omega) (fun h => hv h.symm)]
        exact hAl.cell (p := ⟨b, o, none⟩) hb
      have hggt : gg ≠ tb := by
        intro h
        rcases HAT.out with h1 | h1
        · rw [h] at h1; exact htbr h1
        · omega
      have hset : ∀ b, b ≠ tb → ∀ o u, (w3.setCell ⟨tb, 0, none⟩ u).cell? ⟨b, o, none⟩ = w3.cell? ⟨b, o, none⟩ := fun b hb o u => World.cell?_of_block (Below.heap_setCell w3 _ u b hb)
      refine ⟨rfl, gg, cap, ⟨?_, ?_, ?_⟩, ?_, ?_, ?_, ?_⟩
      · simp [go_sem, ht3]
      · simp [go_sem, hf3]
      · have hr : recsL (upd SN n nm) (upd FA n (some ⟨g, 0, none⟩)) (upd FN n m) (upd FC n c) (upd SZ n sz) (upd AL n al) (n + 1) = recsL SN FA FN FC SZ AL n ++ [.string nm, .slice (some ⟨g, 0, none⟩) m c, .int .i64 sz, .int .i64 al] := by
          rw [recsL, recsL_upd _ _ _ _ _ _ _ _ _ _ _ _ _ _ (Nat.le_refl n)]
          simp only [upd_at, recL]
        rw [hr]
        exact ownsRow_setCell_below HOWN3.out (by simpa using hbt) _
      · have := hgrow.size; simp at this; simp; omega
      · rcases HAT.out with h1 | h1
        · exact Or.inl h1
        · exact Or.inr (by omega)
      · have b0 : Below tb Y (Y.alloc (.cells #[.string nm, .slice (some ⟨g, 0, none⟩) m c, .int .i64 sz, .int .i64 al] 110)).drew := ((Below.refl tb Y).alloc (by omega) _).drew
        refine (b0.grown hgrow (by simp; omega) (fun k h => ?_)).setCell (by simp) _
        have := (HROWL.out k h).1; omega
      · intro b hb hbt hv o
        rw [hset _ hbt, hcs b hb hv]
  case rest =>
    obtain ⟨rfl, rb', rc', htab, hsz', hor, hbt, hfr⟩ := hcut
    have HT' := Lib.hid htab
    have hc0 := htab.t
    have HSZ' := Lib.hid hsz'
    have HBT := Lib.hid hbt
    have HFR := Lib.hid hfr
    have HOR := Lib.hid hor
    clear htab hsz' hbt hfr hor y0 y1 y2 y3 yt yf
    go_wp2
    go_ret2
    have hs1 := HSZ'.out
    have hs2 := HSY.out
    have hg1 := HG1.out
    have hg2 := HG2.out
    have hw1 := HB2.out.size
    have hw2 := HB.out.size
    have hrl := HROWL.out
    have hkeep : ∀ b, b < Y.heap.size → b ≠ tb → va.ownBlock ≠ some b → ∀ o, wc.cell? ⟨b, o, none⟩ = Y.cell? ⟨b, o, none⟩ := HFR.out
    have hnr : ∀ b, w.heap.size ≤ b → va.ownBlock ≠ some b := fun b h1 h2 => by have := (hrl b h2).2; omega
    have hnr' : ∀ b, w.heap.size ≤ b → b < Y.heap.size → (Value.slice (some ⟨rb', 0, none⟩) (n + 1) rc').ownBlock ≠ some b := fun b h1 h2 h3 => by
      have h4 : rb' = b := by simpa [Value.ownBlock] using h3
      rcases HOR.out with h5 | h5
      · have := (hrl rb' h5).2; omega
      · omega
    refine ⟨.slice (some ⟨rb', 0, none⟩) (n + 1) rc', g, c, EL, ?_, ?_, ?_, by omega, by omega, hnr' g (by omega) (by omega), ?_, ?_, by omega, ?_⟩
    · first | rfl | simp
    · exact HT'.out
    · exact (HROW.out.below HBY.out hg2).same fun o => hkeep g (by omega) (by omega) (hnr g (by omega)) o
    · intro i hi
      refine (HELS.out i hi).keep (fun b hb o => ?_) (fun b hb => ?_)
      · obtain ⟨h1, h2⟩ := hb
        rw [hkeep b (by omega) (by omega) (hnr b (by omega)) o]
        exact HBY.out.cell (p := ⟨b, o, none⟩) h2
      · obtain ⟨h1, h2⟩ := hb
        exact ⟨by omega, by omega, hnr' b (by omega) (by omega)⟩
    · intro b hb hbt hv
      refine ⟨fun o => ?_, fun h => ?_⟩
      · rw [hkeep b (by omega) hbt hv o]
        exact HBWY.out.cell (p := ⟨b, o, none⟩) hb
      · have h4 : rb' = b := by simpa [Value.ownBlock] using h
        rcases HOR.out with h5 | h5
        · rw [h4] at h5; exact hv h5
        · omega
    · exact (HBWY.out.mono (by omega)).trans HBT.out
end Go.Proofs.Ytdkhanjfncbfnaa
