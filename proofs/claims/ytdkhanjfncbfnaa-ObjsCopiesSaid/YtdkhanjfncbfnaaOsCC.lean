import Derived.Test.YtdkhanjfncbfnaaOsCB
import Derived.Laws.IdiomCopy
namespace Go.Proofs.Ytdkhanjfncbfnaa
open Go Go.RowKit
set_option linter.unusedVariables false
set_option linter.unusedSimpArgs false

theorem Ob.accp {w : World} {mb pb : Nat} {es : Array MapEntry} {clk : Nat} {o : Int} {s c N : Nat} {L : Nat → Bool} {C : Nat → Cl} (h : Ob w mb pb es clk o s c N L C) (q : Nat) (hq : q + 8 ≤ N) (h8 : q % 8 = 0) (el : Option Addr) (hl : ∀ i, i < 8 → L (q + i) = false) :
    AccIs w mb (ptrV 1 o q) (tP el) (.agg #[.slice (some ⟨s, q, none⟩) 8 (N - q), .slice (some ⟨c, q * 5, none⟩) 8 (N - q)]) true := fun w' hb => by
  have h' := h.below hb
  have hne : ¬ N = q := by omega
  have hbe := h'.behind q (by omega)
  rw [show offs 0 q 1 N = q from by unfold offs; rw [if_neg hne]; omega, show offs 0 q 5 N = q * 5 from by unfold offs; rw [if_neg hne]; omega] at hbe
  have := h'.hN
  have hby := bytesIs_in (n := 8) (by omega) (by omega) hbe
  refine acc_ptr_yes mb 1 o q el (by omega) (by omega) (by omega) s q c (q * 5) (N - q) w' hby (fun i hi => ?_) h'.sl
  have := h'.labs (q + i) (by omega)
  rw [Nat.zero_add, hl i hi] at this
  exact this
/-- A pointer is loaded, or none is there. -/
theorem Ob.loadp {w : World} {mb pb : Nat} {es : Array MapEntry} {clk : Nat} {o : Int} {s c N : Nat} {L : Nat → Bool} {C : Nat → Cl} (h : Ob w mb pb es clk o s c N L C) (q : Nat) (hq : q + 8 ≤ N) (h8 : q % 8 = 0) (el : Option Addr) (hl : ∀ i, i < 8 → L (q + i) = false) (ok : Bool) (hok : ok = true ↔ ∀ i, i < 8 → C (q + i) = ptrC (C q).k (C q).o (C q).f i) :
    Calls Try.prog 23 #[.pointer (some ⟨mb, 0, none⟩), ptrV 1 o q, tP el] w fun e w' => e = .returned (.tuple #[if ok then pvV (C q).k (C q).o (C q).f else numV 0, .bool ok]) ∧ Below w.heap.size w w' := by
  have hN := h.hN
  have hp := fun (w' : World) (hb : Below w.heap.size w w') => pointer_any s q c (q * 5) (N - q) (by omega) (fun i => C (q + i)) (C q).k (C q).o (C q).f ⟨rfl, rfl, rfl⟩ ok hok w' (((h.below hb).cells).shift q 8 hq) (h.below hb).cl
  cases ok
  · exact load_ptr mb 1 o q el s q c (q * 5) 8 (N - q) 0 0 0 false false w (h.accp q hq h8 el hl) hp
  · exact load_ptr mb 1 o q el s q c (q * 5) 8 (N - q) _ _ _ true true w (h.accp q hq h8 el hl) hp
/-- A pointer is stored. -/
theorem Ob.storep {w : World} {mb pb : Nat} {es : Array MapEntry} {clk : Nat} {o : Int} {s c N : Nat} {L : Nat → Bool} {C : Nat → Cl} (h : Ob w mb pb es clk o s c N L C) (q : Nat) (hq : q + 8 ≤ N) (h8 : q % 8 = 0) (el : Option Addr) (hl : ∀ i, i < 8 → L (q + i) = false) (x pk po pf : Int) (isp : Bool) :
    Calls Try.prog 22 #[.pointer (some ⟨mb, 0, none⟩), ptrV 1 o q, tP el, .agg #[.int .i64 x, .int .i64 pk, .int .i64 po, .int .i64 pf, .bool isp]] w fun e w' => e = .returned (.bool true) ∧ Turn c w w' ∧ Ob w' mb pb es clk o s c N L (putP C q 8 pk po pf) := by
  have := h.hN
  refine (store_ptr mb 1 o q el x pk po pf isp s q c q (N - q) N C hq (by omega) w (h.accp q hq h8 el hl) h.cells h.cl h.fz).mono ?_
  rintro e w' ⟨rfl, ht, hC⟩
  exact ⟨rfl, ht, h.wrote ht hC⟩

set_option maxRecDepth 100000 in
set_option maxHeartbeats 8000000 in
theorem equal_any (s so n r s2 so2 r2 : Nat) (L L2 : Nat → Bool) (hn : n ≤ 1000000000) (b : Bool) (hb : b = true ↔ ∀ i, i < n → L i = L2 i) (w : World) (h : Labs w s so n L) (h2 : Labs w s2 so2 n L2) (hs : s < w.heap.size) (hs2 : s2 < w.heap.size) :
    Calls Try.prog 51 #[.slice (some ⟨s, so, none⟩) n r, .slice (some ⟨s2, so2, none⟩) n r2] w fun e w' => e = .returned (.bool b) ∧ Below w.heap.size w w' := by
  have H := Lib.hid h
  have H2 := Lib.hid h2
  have HB := Lib.hid hb
  clear h h2 hb
  go_enter Try.func51, Try.ntmps51
  go_wp2_with fail
  go_loopw [13] (fun s13 wr => ∃ k : Nat, s13 = .int .i64 k ∧ k ≤ n ∧ Below w.heap.size w wr ∧ Hid (∀ i, i < k → L i = L2 i)) (fun s13 _ => n - (intOf s13).toNat)
  case atStart => exact ⟨0, rfl, by omega, Below.refl _ _, Lib.hid (fun i hi => by omega)⟩
  case round =>
    obtain ⟨k, rfl, hk, hbr, HE⟩ := hrel
    have HBR := Lib.hid hbr
    by_cases hlt : k < n
    · have hc := H.out.below hbr hs k hlt
      have hc2 := H2.out.below hbr hs2 k hlt
      have hkl : (k : Int) < n := by omega
      clear hbr
      obtain ⟨x, hx⟩ : ∃ x, x = L k := ⟨_, rfl⟩
      obtain ⟨y, hy⟩ : ∃ y, y = L2 k := ⟨_, rfl⟩
      rw [← hx] at hc
      rw [← hy] at hc2
      have HX := Lib.hid hx
      have HY := Lib.hid hy
      clear hx hy
      go_upto_region 6 with fail
      have SD : Hid (wr.cell? ⟨s, so + k, none⟩ = some (.bool x) ∧ wr.cell? ⟨s2, so2 + k, none⟩ = some (.bool y)) := Lib.hid ⟨hc, hc2⟩
      have SE : Hid (wr.drew.cell? ⟨s, so + k, none⟩ = some (.bool x) ∧ wr.drew.cell? ⟨s2, so2 + k, none⟩ = some (.bool y)) := Lib.hid ⟨hc, hc2⟩
      clear hc hc2
      by_cases hxy : x = y
      · subst hxy
        refine wp_region_held_drew (S := (fun w' => w'.cell? ⟨s, so + k, none⟩ = some (.bool x) ∧ w'.cell? ⟨s2, so2 + k, none⟩ = some (.bool x))) (by kernel_rfl) (by (first | (with_reducible exact SD.out) | (with_reducible exact SE.out))) (fun hHeld => ?_)
        refine takeD (i := 0) (d := 16) (v := ?_) rfl rfl (by kernel_rfl) (by kernel_rfl) (by kernel_rfl) (fun _ _ _ h => h) (Or.inl ⟨by rfl, ?_⟩) (by assumption) ?_
        rotate_left
        · intro w hSw
          (try dsimp only at hSw)
          go_simp
          (try with_reducible rfl)
        (try simp only [Act.put, List.setIfInBounds_toArray, List.set_cons_zero, List.set_cons_succ])
        refine takeD (i := 1) (d := 17) (v := ?_) rfl rfl (by kernel_rfl) (by kernel_rfl) (by kernel_rfl) (fun _ _ _ h => h) (Or.inl ⟨by rfl, ?_⟩) (by assumption) ?_
        rotate_left
        · intro w hSw
          (try dsimp only at hSw)
          go_simp
          (try with_reducible rfl)
        (try simp only [Act.put, List.setIfInBounds_toArray, List.set_cons_zero, List.set_cons_succ])
        refine takeD (i := 2) (d := 18) (v := ?_) rfl rfl (by kernel_rfl) (by kernel_rfl) (by kernel_rfl) (fun _ _ _ h => h) (Or.inl ⟨by rfl, ?_⟩) (by assumption) ?_
        rotate_left
        · intro w hSw
          (try dsimp only at hSw)
          go_simp
          (try with_reducible rfl)
        (try simp only [Act.put, List.setIfInBounds_toArray, List.set_cons_zero, List.set_cons_succ])
        refine takeD (i := 3) (d := 19) (v := ?_) rfl rfl (by kernel_rfl) (by kernel_rfl) (by kernel_rfl) (fun _ _ _ h => h) (Or.inl ⟨by rfl, ?_⟩) (by assumption) ?_
        rotate_left
        · intro w hSw
          (try dsimp only at hSw)
          go_simp
          (try with_reducible rfl)
        (try simp only [Act.put, List.setIfInBounds_toArray, List.set_cons_zero, List.set_cons_succ])
        refine takeD (i := 4) (d := 20) (v := ?_) rfl rfl (by kernel_rfl) (by kernel_rfl) (by kernel_rfl) (fun _ _ _ h => h) (Or.inl ⟨by rfl, ?_⟩) (by assumption) ?_
        rotate_left
        · intro w hSw
          (try dsimp only at hSw)
          go_simp
          (try with_reducible rfl)
        (try simp only [Act.put, List.setIfInBounds_toArray, List.set_cons_zero, List.set_cons_succ])
        refine takeD (i := 5) (d := 21) (v := ?_) rfl rfl (by kernel_rfl) (by kernel_rfl) (by kernel_rfl) (fun _ _ _ h => h) (Or.inl ⟨by rfl, ?_⟩) (by assumption) ?_
        rotate_left
        · intro w hSw
          (try dsimp only at hSw)
          go_simp
          (try with_reducible rfl)
        (try simp only [Act.put, List.setIfInBounds_toArray, List.set_cons_zero, List.set_cons_succ])
        refine takeD (i := 6) (d := 22) (v := ?_) rfl rfl (by kernel_rfl) (by kernel_rfl) (by kernel_rfl) (fun _ _ _ h => h) (Or.inl ⟨by rfl, ?_⟩) (by assumption) ?_
        rotate_left
        · intro w hSw
          (try dsimp only at hSw)
          go_simp
          (try with_reducible rfl)
        (try simp only [Act.put, List.setIfInBounds_toArray, List.set_cons_zero, List.set_cons_succ])
        refine takeD (i := 7) (d := 23) (v := ?_) rfl rfl (by kernel_rfl) (by kernel_rfl) (by kernel_rfl) (fun _ _ _ h => h) (Or.inl ⟨by rfl, ?_⟩) (by assumption) ?_
        rotate_left
        · intro w hSw
          (try dsimp only at hSw)
          go_simp
          (try with_reducible rfl)
        (try simp only [Act.put, List.setIfInBounds_toArray, List.set_cons_zero, List.set_cons_succ])
        refine takeD (i := 8) (d := 24) (v := ?_) rfl rfl (by kernel_rfl) (by kernel_rfl) (by kernel_rfl) (fun _ _ _ h => h) (Or.inl ⟨by rfl, ?_⟩) (by assumption) ?_
        rotate_left
        · intro w hSw
          (try dsimp only at hSw)
          go_simp
          (try with_reducible rfl)
        (try simp only [Act.put, List.setIfInBounds_toArray, List.set_cons_zero, List.set_cons_succ])
        refine wpAnyH_done (by kernel_rfl) ?_ _
        clear hHeld
        clear SD SE
        cases x
        all_goals
          go_wp2_with fail
          go_roundw
          case rel => exact ⟨k + 1, by go_num, by omega, HBR.out.drew, Lib.hid (fun i hi => by
            by_cases hik : i < k
            · exact HE.out i hik
            · obtain rfl : i = k := by omega
              exact HX.out.symm.trans HY.out)⟩
          case measure => simp [intOf]; omega
      · obtain rfl : b = false := by
          cases b
          · rfl
          · exact absurd (HX.out.trans ((HB.out.1 rfl k hlt).trans HY.out.symm)) hxy
        have HBD := Lib.hid HBR.out.drew
        have hxy2 : y = !x := by cases x <;> cases y <;> simp_all
        subst hxy2
        clear hxy
        refine wp_region_held_drew (S := (fun w' => w'.cell? ⟨s, so + k, none⟩ = some (.bool x) ∧ w'.cell? ⟨s2, so2 + k, none⟩ = some (.bool !x))) (by kernel_rfl) (by (first | (with_reducible exact SD.out) | (with_reducible exact SE.out))) (fun hHeld => ?_)
        refine takeD (i := 0) (d := 16) (v := ?_) rfl rfl (by kernel_rfl) (by kernel_rfl) (by kernel_rfl) (fun _ _ _ h => h) (Or.inl ⟨by rfl, ?_⟩) (by assumption) ?_
        rotate_left
        · intro w hSw
          (try dsimp only at hSw)
          go_simp
          (try with_reducible rfl)
        (try simp only [Act.put, List.setIfInBounds_toArray, List.set_cons_zero, List.set_cons_succ])
        refine takeD (i := 1) (d := 17) (v := ?_) rfl rfl (by kernel_rfl) (by kernel_rfl) (by kernel_rfl) (fun _ _ _ h => h) (Or.inl ⟨by rfl, ?_⟩) (by assumption) ?_
        rotate_left
        · intro w hSw
          (try dsimp only at hSw)
          go_simp
          (try with_reducible rfl)
        (try simp only [Act.put, List.setIfInBounds_toArray, List.set_cons_zero, List.set_cons_succ])
        refine takeD (i := 2) (d := 18) (v := ?_) rfl rfl (by kernel_rfl) (by kernel_rfl) (by kernel_rfl) (fun _ _ _ h => h) (Or.inl ⟨by rfl, ?_⟩) (by assumption) ?_
        rotate_left
        · intro w hSw
          (try dsimp only at hSw)
          go_simp
          (try with_reducible rfl)
        (try simp only [Act.put, List.setIfInBounds_toArray, List.set_cons_zero, List.set_cons_succ])
        refine takeD (i := 3) (d := 19) (v := ?_) rfl rfl (by kernel_rfl) (by kernel_rfl) (by kernel_rfl) (fun _ _ _ h => h) (Or.inl ⟨by rfl, ?_⟩) (by assumption) ?_
        rotate_left
        · intro w hSw
          (try dsimp only at hSw)
          go_simp
          (try with_reducible rfl)
        (try simp only [Act.put, List.setIfInBounds_toArray, List.set_cons_zero, List.set_cons_succ])
        refine takeD (i := 4) (d := 20) (v := ?_) rfl rfl (by kernel_rfl) (by kernel_rfl) (by kernel_rfl) (fun _ _ _ h => h) (Or.inl ⟨by rfl, ?_⟩) (by assumption) ?_
        rotate_left
        · intro w hSw
          (try dsimp only at hSw)
          go_simp
          (try with_reducible rfl)
        (try simp only [Act.put, List.setIfInBounds_toArray, List.set_cons_zero, List.set_cons_succ])
        refine takeD (i := 5) (d := 21) (v := ?_) rfl rfl (by kernel_rfl) (by kernel_rfl) (by kernel_rfl) (fun _ _ _ h => h) (Or.inl ⟨by rfl, ?_⟩) (by assumption) ?_
        rotate_left
        · intro w hSw
          (try dsimp only at hSw)
          go_simp
          (try with_reducible rfl)
        (try simp only [Act.put, List.setIfInBounds_toArray, List.set_cons_zero, List.set_cons_succ])
        refine takeD (i := 6) (d := 22) (v := ?_) rfl rfl (by kernel_rfl) (by kernel_rfl) (by kernel_rfl) (fun _ _ _ h => h) (Or.inl ⟨by rfl, ?_⟩) (by assumption) ?_
        rotate_left
        · intro w hSw
          (try dsimp only at hSw)
          go_simp
          (try with_reducible rfl)
        (try simp only [Act.put, List.setIfInBounds_toArray, List.set_cons_zero, List.set_cons_succ])
        refine takeD (i := 7) (d := 23) (v := ?_) rfl rfl (by kernel_rfl) (by kernel_rfl) (by kernel_rfl) (fun _ _ _ h => h) (Or.inl ⟨by rfl, ?_⟩) (by assumption) ?_
        rotate_left
        · intro w hSw
          (try dsimp only at hSw)
          go_simp
          (try with_reducible rfl)
        (try simp only [Act.put, List.setIfInBounds_toArray, List.set_cons_zero, List.set_cons_succ])
        refine takeD (i := 8) (d := 24) (v := ?_) rfl rfl (by kernel_rfl) (by kernel_rfl) (by kernel_rfl) (fun _ _ _ h => h) (Or.inl ⟨by rfl, ?_⟩) (by assumption) ?_
        rotate_left
        · intro w hSw
          (try dsimp only at hSw)
          go_simp
          (try with_reducible rfl)
        (try simp only [Act.put, List.setIfInBounds_toArray, List.set_cons_zero, List.set_cons_succ])
        refine wpAnyH_done (by kernel_rfl) ?_ _
        clear hHeld
        clear SD SE
        cases x
        all_goals
          go_wp2_with fail
          go_ret
          exact ⟨rfl, HBD.out⟩
    · obtain rfl : k = n := by omega
      obtain rfl : b = true := HB.out.2 HE.out
      clear hbr
      go_wp2_with fail
      go_ret
      exact ⟨rfl, HBR.out⟩
end Go.Proofs.Ytdkhanjfncbfnaa
