import Derived.Test.YtdkhanjfncbfnaaOsM
import Derived.Laws.IdiomCopy
namespace Go.Proofs.Ytdkhanjfncbfnaa
open Go Go.RowKit
set_option linter.unusedVariables false
set_option linter.unusedSimpArgs false

set_option maxRecDepth 100000 in
set_option maxHeartbeats 4000000 in
theorem within_any (g o len cap at_ n : Nat) (h : at_ + n ≤ len) (hn : 0 < n) (hlc : len ≤ cap) (hc : cap ≤ 1000000000) (w : World) :
    Calls Try.prog 60 #[.slice (some ⟨g, o, none⟩) len cap, .int .i64 (at_ : Int), .int .i64 (n : Int)] w fun e w' => e = .returned (.slice (some ⟨g, o + at_, none⟩) n (cap - at_)) ∧ w' = w := by
  have h1 : ¬ (at_ : Int) < 0 := by omega
  have h2 : ¬ (n : Int) < 0 := by omega
  have h3 : ¬ (len : Int) < at_ := by omega
  have hw : wrap64 ((at_ : Int) + n) = ((at_ + n : Nat) : Int) := by unfold wrap64; omega
  obtain ⟨u, hu⟩ : ∃ u : Nat, u = at_ + n := ⟨_, rfl⟩
  rw [← hu] at hw
  have h4 : ¬ (len : Int) < u := by omega
  have h5 : (u : Int) ≤ cap := by omega
  have h6 : (at_ : Int) ≤ u := by omega
  have hne : ¬ cap = at_ := by omega
  go_enter Try.func60, Try.ntmps60
  go_wp2_with fail
  go_ret
  exact ⟨rfl, rfl⟩

set_option maxRecDepth 100000 in
set_option maxHeartbeats 8000000 in
theorem repeat_any (g o len cap n q : Nat) (L L0 : Nat → Bool) (hn : 0 < n) (hq : len = n * q) (hlc : len ≤ cap) (hc : cap ≤ 1000000000) (hnl : n ≤ len) (w : World) (hL : Labs w g o n L) (h0 : Labs w g o len L0) (hz : ∀ j, w.frozen? ⟨g, j, none⟩ = false) :
    Calls Try.prog 59 #[.slice (some ⟨g, o, none⟩) len cap, .int .i64 (n : Int)] w fun e w' => e = .returned (.tuple #[]) ∧ Turn g w w' ∧ Labs w' g o len (fun i => L (i % n)) ∧ ∀ j, j < o ∨ o + len ≤ j → w'.cell? ⟨g, j, none⟩ = w.cell? ⟨g, j, none⟩ := by
  have HL := Lib.hid hL
  have H0 := Lib.hid h0
  have HZ := Lib.hid hz
  have HQ := Lib.hid hq
  clear hL h0 hz hq
  go_enter Try.func59, Try.ntmps59
  go_wp2_with fail
  go_loopw [4] (fun s4 wr => ∃ d e : Nat, s4 = .int .i64 d ∧ n ≤ d ∧ d ≤ 2 * len ∧ Hid (d = n * e) ∧ Hid (Turn g w wr) ∧ Hid (Labs wr g o (min d len) (fun i => L (i % n))) ∧ Hid (∃ L1, Labs wr g o len L1) ∧ Hid (∀ j, j < o ∨ o + len ≤ j → wr.cell? ⟨g, j, none⟩ = w.cell? ⟨g, j, none⟩)) (fun s4 _ => len - (intOf s4).toNat)
  case atStart => exact ⟨n, 1, rfl, by omega, by omega, Lib.hid (by omega), Lib.hid (Turn.refl _ _), Lib.hid (fun i hi => by show _ = some (Value.bool (L (i % n))); rw [Nat.mod_eq_of_lt (by omega)]; exact HL.out i (by omega)), Lib.hid ⟨L0, H0.out⟩, Lib.hid (fun j _ => rfl)⟩
  case round =>
    obtain ⟨d, e, rfl, hd1, hd2, HD, HT, HLB, HL1, HO⟩ := hrel
    have hdp : (0 : Int) < d := by omega
    by_cases hlt : d < len
    · have hdl : (d : Int) < len := by omega
      have hdl2 : (d : Int) ≤ len := by omega
      have hdc : (d : Int) ≤ cap := by omega
      have hdc2 : (len : Int) ≤ cap := by omega
      have hnc : ¬ cap = d := by omega
      have hnl2 : ¬ len = d := by omega
      obtain ⟨cs, hcs⟩ : ∃ cs : List Value, cs = (List.range (Nat.min d (len - d))).map (fun i => Value.bool (L (i % n))) := ⟨_, rfl⟩
      have hcl : cs.length = Nat.min d (len - d) := by rw [hcs]; simp
      have hcp := run_copy_cells (P := Try.prog) wr.drew 28 28 3 4 g (o + d) (len - d) (cap - d) ⟨g, o, none⟩ d cap cs Try.underlying28 (by kernel_rfl) hcl (fun j v hv => by
        have hj : j < d := by
          have := (List.getElem?_eq_some_iff.1 hv).1
          rw [hcl] at this
          exact Nat.lt_of_lt_of_le this (Nat.min_le_left _ _)
        rw [hcs, List.getElem?_map] at hv
        obtain ⟨i, hi, rfl⟩ := Option.map_eq_some_iff.1 hv
        obtain ⟨_, rfl⟩ := List.getElem?_eq_some_iff.1 hi
        simp only [List.getElem_range]
        rw [show (⟨g, o, none⟩ : Addr).add j = ⟨g, o + j, none⟩ from by unfold Addr.add; split <;> simp_all]
        exact HLB.out j (by omega)) (fun j hj => by
        have hm : Nat.min d (len - d) ≤ len - d := Nat.min_le_right _ _
        obtain ⟨L1, hl1⟩ := HL1.out
        have := hl1 (d + j) (by omega)
        rw [← Nat.add_assoc] at this
        show (wr.cell? ⟨g, o + d + j, none⟩).isSome = true
        rw [this]; rfl) (fun j _ => HT.out.fz _ (HZ.out _)) (fun v hv => by
        rw [hcs] at hv
        obtain ⟨i, _, rfl⟩ := List.mem_map.1 hv
        rfl)
      have HCS := Lib.hid hcs
      have HCL := Lib.hid hcl
      have hgi : goInt cs.length = .int .i64 (cs.length : Int) := rfl
      clear hcs hcl
      go_upto_region 3 with fail
      refine wp_region_held_drew (S := (fun w' => True)) (by kernel_rfl) (by exact trivial) (fun hHeld => ?_)
      refine takeD (i := 0) (d := 16) (v := ?_) rfl rfl (by kernel_rfl) (by kernel_rfl) (by kernel_rfl) (fun _ _ _ h => h) (Or.inl ⟨by rfl, ?_⟩) (by assumption) ?_
      rotate_left
      · intro w hSw
        (try dsimp only at hSw)
        go_simp
        (try with_reducible rfl)
      (try simp only [Act.put, List.setIfInBounds_toArray, List.set_cons_zero, List.set_cons_succ])
      refine takeD (i := 1) (d := 17) (v := ?_) rfl rfl (by kernel_rfl) (by kernel_rfl) (by kernel_rfl) (fun _ _ _ h => h) (Or.inl ⟨by rfl, ?_⟩) (by assumption) ?_
      rotate_left
      · intro w hSw
        (try dsimp only at hSw)
        go_simp
        (try with_reducible rfl)
      (try simp only [Act.put, List.setIfInBounds_toArray, List.set_cons_zero, List.set_cons_succ])
      refine takeD (i := 2) (d := 18) (v := ?_) rfl rfl (by kernel_rfl) (by kernel_rfl) (by kernel_rfl) (fun _ _ _ h => h) (Or.inl ⟨by rfl, ?_⟩) (by assumption) ?_
      rotate_left
      · intro w hSw
        (try dsimp only at hSw)
        go_simp
        (try with_reducible rfl)
      (try simp only [Act.put, List.setIfInBounds_toArray, List.set_cons_zero, List.set_cons_succ])
      refine takeD (i := 3) (d := 19) (v := ?_) rfl rfl (by kernel_rfl) (by kernel_rfl) (by kernel_rfl) (fun _ _ _ h => h) (Or.inl ⟨by rfl, ?_⟩) (by assumption) ?_
      rotate_left
      · intro w hSw
        (try dsimp only at hSw)
        go_simp
        (try with_reducible rfl)
      (try simp only [Act.put, List.setIfInBounds_toArray, List.set_cons_zero, List.set_cons_succ])
      refine takeD (i := 4) (d := 20) (v := ?_) rfl rfl (by kernel_rfl) (by kernel_rfl) (by kernel_rfl) (fun _ _ _ h => h) (Or.inl ⟨by rfl, ?_⟩) (by assumption) ?_
      rotate_left
      · intro w hSw
        (try dsimp only at hSw)
        go_simp
        (try with_reducible rfl)
      (try simp only [Act.put, List.setIfInBounds_toArray, List.set_cons_zero, List.set_cons_succ])
      refine takeD (i := 5) (d := 21) (v := ?_) rfl rfl (by kernel_rfl) (by kernel_rfl) (by kernel_rfl) (fun _ _ _ h => h) (Or.inl ⟨by rfl, ?_⟩) (by assumption) ?_
      rotate_left
      · intro w hSw
        (try dsimp only at hSw)
        go_simp
        (try with_reducible rfl)
      (try simp only [Act.put, List.setIfInBounds_toArray, List.set_cons_zero, List.set_cons_succ])
      refine wpAnyH_ready (rs := [6]) (by kernel_rfl) (by simp) ?_
      refine AllReadyH.cons rfl (fun K hK => ?_) AllReadyH.nil
      go_simp
      refine hK.out _ _ ?_ (fun hHeld2 => ?_)
      · trivial
      clear hHeld hK K
      have hHeld := hHeld2
      clear hHeld2
      (try simp only [Act.put, List.setIfInBounds_toArray, List.set_cons_zero, List.set_cons_succ])
      refine wpAnyH_done (by kernel_rfl) ?_ _
      clear hHeld
      go_wp2_with fail
      go_roundw
      case rel =>
        have hin : ∀ j, j < cs.length → (wr.drew.setCells g (o + d) cs).cell? ⟨g, o + d + j, none⟩ = some (.bool (L (j % n))) := fun j hj => by
          have hjl := hj
          rw [HCL.out] at hjl
          have hm : Nat.min d (len - d) ≤ len - d := Nat.min_le_right _ _
          rw [World.cell?_setCells_in g cs (o + d) wr.drew (fun i hi => by
            rw [HCL.out] at hi
            obtain ⟨L1, hl1⟩ := HL1.out
            have := hl1 (d + i) (by omega)
            rw [← Nat.add_assoc] at this
            show (wr.cell? ⟨g, o + d + i, none⟩).isSome = true
            rw [this]; rfl) j hj]
          simp only [HCS.out, List.getElem_map, List.getElem_range]
        have hout : ∀ j, j < o + d ∨ o + d + cs.length ≤ j → (wr.drew.setCells g (o + d) cs).cell? ⟨g, j, none⟩ = wr.cell? ⟨g, j, none⟩ := fun j hj => World.cell?_setCells_out g cs (o + d) wr.drew ⟨g, j, none⟩ (fun _ _ => hj)
        have hcl := HCL.out
        have hmn : Nat.min d (len - d) = min d (len - d) := rfl
        rw [hmn] at hcl
        refine ⟨d * 2, e * 2, by go_num, by omega, by omega, Lib.hid (by rw [HD.out, Nat.mul_assoc]), Lib.hid (HT.out.drew.trans (Turn.setCells g cs (o + d) _)), Lib.hid (fun i hi => ?_), Lib.hid ?_, Lib.hid (fun j hj => ?_)⟩
        · by_cases hid : i < d
          · rw [hout (o + i) (by omega)]
            exact HLB.out i (by omega)
          · have := hin (i - d) (by omega)
            rw [show o + d + (i - d) = o + i from by omega] at this
            rw [this]
            show _ = some (Value.bool (L (i % n)))
            have he : i = (i - d) + n * e := by have := HD.out; omega
            have hmod : i % n = (i - d) % n := by
              generalize i - d = z at he
              rw [he]
              exact Nat.add_mul_mod_self_left _ _ _
            rw [hmod]
        · obtain ⟨L1, hl1⟩ := HL1.out
          refine ⟨fun i => if d ≤ i ∧ i < d + cs.length then L ((i - d) % n) else L1 i, fun i hi => ?_⟩
          by_cases hx : d ≤ i ∧ i < d + cs.length
          · have := hin (i - d) (by omega)
            rw [show o + d + (i - d) = o + i from by omega] at this
            simp only [if_pos hx]
            exact this
          · simp only [if_neg hx]
            rw [hout (o + i) (by omega)]
            exact hl1 i hi
        · rw [hout j (by omega)]
          exact HO.out j hj
      case measure => simp [intOf]; omega
    · have hdl : ¬ (d : Int) < len := by omega
      go_wp2_with fail
      go_end0
      exact ⟨rfl, HT.out, fun i hi => HLB.out i (by omega), HO.out⟩
end Go.Proofs.Ytdkhanjfncbfnaa
