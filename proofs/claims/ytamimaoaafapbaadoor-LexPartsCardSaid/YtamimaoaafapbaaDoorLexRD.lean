import Derived.Test.YtamimaoaafapbaaDoorLexRC
namespace Go.Proofs.YtamimaoaafapbaaDoor
open Go Go.RowKit

theorem charT_esc (L : List UInt8) (o : Option Int) (h : 4 ≤ L.length) (h1 : L.getD 1 0 = 92) (h3 : L.getD 3 0 = 39) (he : esc (L.getD 2 0).toNat = o) : charT L = o.map (fun v => { kind := 3, text := L.take 4, at_ := 0, value := v.toNat, uns := false, long := false }) := by
  unfold charT; rw [if_pos ⟨h, h1, h3⟩, he]; cases o <;> rfl
theorem charT_pl (L : List UInt8) (hn : ¬ (4 ≤ L.length ∧ L.getD 1 0 = 92 ∧ L.getD 3 0 = 39)) (h : 3 ≤ L.length) (hp : plainB (L.getD 1 0).toNat = true) (h2 : L.getD 2 0 = 39) : charT L = some { kind := 3, text := L.take 3, at_ := 0, value := (L.getD 1 0).toNat, uns := false, long := false } := by
  unfold charT; rw [if_neg hn, if_pos ⟨h, hp, h2⟩]
theorem charT_no (L : List UInt8) (hn : ¬ (4 ≤ L.length ∧ L.getD 1 0 = 92 ∧ L.getD 3 0 = 39)) (hn2 : ¬ (3 ≤ L.length ∧ plainB (L.getD 1 0).toNat = true ∧ L.getD 2 0 = 39)) : charT L = none := by
  unfold charT; rw [if_neg hn, if_neg hn2]
theorem u8_lit (c : UInt8) (k : Nat) (hk : k < 256) : (c = UInt8.ofNat k) ↔ (c.toNat : Int) = k := by
  constructor
  · rintro rfl; simp; omega
  · intro h; apply UInt8.toNat_inj.1; simp; omega
theorem getD_at' (s : ByteArray) (k : Nat) (h : k < s.size) : s.data.toList.getD k 0 = s[k] := by
  have h2 : k < s.data.toList.length := by rw [← Lib.size_eq]; exact h
  rw [List.getD, List.getElem?_eq_getElem h2]; rfl

set_option maxRecDepth 100000 in
set_option maxHeartbeats 4000000 in
theorem quoted_any (s : ByteArray) (hs : s.size ≤ 1048576) (a : Nat) (ha : a < s.size) (w : World) :
    Calls Tryd.prog 25 #[.string s, .int .i64 a] w fun e w' => e = .returned (rTokV (rAt a (charT (s.data.toList.drop a)))) ∧ Below w.heap.size w w' := by
  obtain ⟨r, hr⟩ : ∃ r, s.extract a s.size = r := ⟨_, rfl⟩
  have hL : r.data.toList = s.data.toList.drop a := by rw [← hr]; exact Lib.extract_to_end _ _
  have hsz : r.size = s.size - a := by rw [Lib.size_eq, hL, List.length_drop, ← Lib.size_eq]
  have hlen : (s.data.toList.drop a).length = r.size := by rw [← hL, ← Lib.size_eq]
  have hX4 := B_extract r 0 4
  have hX3 := B_extract r 0 3
  rw [List.drop_zero, Nat.sub_zero, hL] at hX4 hX3
  have HX4 := Lib.hid hX4
  have HX3 := Lib.hid hX3
  have HLEN := Lib.hid hlen
  have hrm : r.size ≤ 1048576 := by omega
  clear hX3 hX4 hlen hsz
  have G := Lib.hid (show ∀ k (h : k < r.size), (s.data.toList.drop a).getD k 0 = r[k] from fun k h => by rw [← hL]; exact getD_at' r k h)
  clear hL
  by_cases h4 : 4 ≤ r.size
  · have hi4 : (4 : Int) ≤ (r.size : Int) := by omega
    by_cases h1 : (r[1].toNat : Int) = 92
    · have b1 : ((r[1].toNat : Int) == 92) = true := by simpa using h1
      have g1 : (s.data.toList.drop a).getD 1 0 = 92 := by rw [G.out 1 (by omega)]; exact (u8_lit _ 92 (by omega)).2 h1
      by_cases h3 : (r[3].toNat : Int) = 39
      · have b3 : ((r[3].toNat : Int) == 39) = true := by simpa using h3
        have g3 : (s.data.toList.drop a).getD 3 0 = 39 := by rw [G.out 3 (by omega)]; exact (u8_lit _ 39 (by omega)).2 h3
        clear h1 h3
        have hc : (r[2].toNat : Int) = 110 ∨ (r[2].toNat : Int) = 116 ∨ (r[2].toNat : Int) = 48 ∨ (r[2].toNat : Int) = 92 ∨ (r[2].toNat : Int) = 39 ∨ esc (r[2].toNat : Int) = none := by
          by_cases e1 : (r[2].toNat : Int) = 110
          · exact .inl e1
          · by_cases e2 : (r[2].toNat : Int) = 116
            · exact .inr (.inl e2)
            · by_cases e3 : (r[2].toNat : Int) = 48
              · exact .inr (.inr (.inl e3))
              · by_cases e4 : (r[2].toNat : Int) = 92
                · exact .inr (.inr (.inr (.inl e4)))
                · by_cases e5 : (r[2].toNat : Int) = 39
                  · exact .inr (.inr (.inr (.inr (.inl e5))))
                  · exact .inr (.inr (.inr (.inr (.inr (by unfold esc; rw [if_neg e1, if_neg e2, if_neg e3, if_neg (fun h => h.elim e4 e5)])))))
        rcases hc with hc | hc | hc | hc | hc | hc
        · have HN := Lib.hid (charT_esc (s.data.toList.drop a) (some 10) (by rw [HLEN.out]; omega) g1 g3 (by rw [G.out 2 (by omega), hc]; rfl))
          have b2 : ((r[2].toNat : Int) == 110) = true := by simpa using hc
          have b116 : ((r[2].toNat : Int) == 116) = false := by simp; omega
          have b48 : ((r[2].toNat : Int) == 48) = false := by simp; omega
          have b92 : ((r[2].toNat : Int) == 92) = false := by simp; omega
          have b39 : ((r[2].toNat : Int) == 39) = false := by simp; omega
          clear hc g1 g3
          go_enter Tryd.func25, Tryd.ntmps25
          go_wp2_with fail
          refine bodyPost_ret (v := rTokV { kind := 3, text := (s.data.toList.drop a).take 4, at_ := a, value := 10, uns := false, long := false }) ?_ rfl ⟨by rw [HN.out]; rfl, ?_⟩
          · rw [HX4.out]; simp [results, Tryd.results25, go_sem, rTokV]
          · ((repeat (first | (with_reducible exact Below.refl _ _) | (with_reducible apply Below.setCell) | (with_reducible apply below_drewN) | (with_reducible apply Below.drew) | (with_reducible apply Below.alloc))) <;> first | omega | (simp; done) | (simp; omega))
        · have HN := Lib.hid (charT_esc (s.data.toList.drop a) (some 9) (by rw [HLEN.out]; omega) g1 g3 (by rw [G.out 2 (by omega), hc]; rfl))
          have b2 : ((r[2].toNat : Int) == 116) = true := by simpa using hc
          have b110 : ((r[2].toNat : Int) == 110) = false := by simp; omega
          have b48 : ((r[2].toNat : Int) == 48) = false := by simp; omega
          have b92 : ((r[2].toNat : Int) == 92) = false := by simp; omega
          have b39 : ((r[2].toNat : Int) == 39) = false := by simp; omega
          clear hc g1 g3
          go_enter Tryd.func25, Tryd.ntmps25
          go_wp2_with fail
          refine bodyPost_ret (v := rTokV { kind := 3, text := (s.data.toList.drop a).take 4, at_ := a, value := 9, uns := false, long := false }) ?_ rfl ⟨by rw [HN.out]; rfl, ?_⟩
          · rw [HX4.out]; simp [results, Tryd.results25, go_sem, rTokV]
          · ((repeat (first | (with_reducible exact Below.refl _ _) | (with_reducible apply Below.setCell) | (with_reducible apply below_drewN) | (with_reducible apply Below.drew) | (with_reducible apply Below.alloc))) <;> first | omega | (simp; done) | (simp; omega))
        · have HN := Lib.hid (charT_esc (s.data.toList.drop a) (some 0) (by rw [HLEN.out]; omega) g1 g3 (by rw [G.out 2 (by omega), hc]; rfl))
          have b2 : ((r[2].toNat : Int) == 48) = true := by simpa using hc
          have b110 : ((r[2].toNat : Int) == 110) = false := by simp; omega
          have b116 : ((r[2].toNat : Int) == 116) = false := by simp; omega
          have b92 : ((r[2].toNat : Int) == 92) = false := by simp; omega
          have b39 : ((r[2].toNat : Int) == 39) = false := by simp; omega
          clear hc g1 g3
          go_enter Tryd.func25, Tryd.ntmps25
          go_wp2_with fail
          refine bodyPost_ret (v := rTokV { kind := 3, text := (s.data.toList.drop a).take 4, at_ := a, value := 0, uns := false, long := false }) ?_ rfl ⟨by rw [HN.out]; rfl, ?_⟩
          · rw [HX4.out]; simp [results, Tryd.results25, go_sem, rTokV]
          · ((repeat (first | (with_reducible exact Below.refl _ _) | (with_reducible apply Below.setCell) | (with_reducible apply below_drewN) | (with_reducible apply Below.drew) | (with_reducible apply Below.alloc))) <;> first | omega | (simp; done) | (simp; omega))
        · have HN := Lib.hid (charT_esc (s.data.toList.drop a) (some 92) (by rw [HLEN.out]; omega) g1 g3 (by rw [G.out 2 (by omega), hc]; rfl))
          have b2 : ((r[2].toNat : Int) == 92) = true := by simpa using hc
          have b110 : ((r[2].toNat : Int) == 110) = false := by simp; omega
          have b116 : ((r[2].toNat : Int) == 116) = false := by simp; omega
          have b48 : ((r[2].toNat : Int) == 48) = false := by simp; omega
          have b39 : ((r[2].toNat : Int) == 39) = false := by simp; omega
          clear hc g1 g3
          go_enter Tryd.func25, Tryd.ntmps25
          go_wp2_with fail
          refine bodyPost_ret (v := rTokV { kind := 3, text := (s.data.toList.drop a).take 4, at_ := a, value := 92, uns := false, long := false }) ?_ rfl ⟨by rw [HN.out]; rfl, ?_⟩
          · rw [HX4.out]; simp [results, Tryd.results25, go_sem, rTokV]
          · ((repeat (first | (with_reducible exact Below.refl _ _) | (with_reducible apply Below.setCell) | (with_reducible apply below_drewN) | (with_reducible apply Below.drew) | (with_reducible apply Below.alloc))) <;> first | omega | (simp; done) | (simp; omega))
        · have HN := Lib.hid (charT_esc (s.data.toList.drop a) (some 39) (by rw [HLEN.out]; omega) g1 g3 (by rw [G.out 2 (by omega), hc]; rfl))
          have b2 : ((r[2].toNat : Int) == 39) = true := by simpa using hc
          have b110 : ((r[2].toNat : Int) == 110) = false := by simp; omega
          have b116 : ((r[2].toNat : Int) == 116) = false := by simp; omega
          have b48 : ((r[2].toNat : Int) == 48) = false := by simp; omega
          have b92 : ((r[2].toNat : Int) == 92) = false := by simp; omega
          clear hc g1 g3
          go_enter Tryd.func25, Tryd.ntmps25
          go_wp2_with fail
          refine bodyPost_ret (v := rTokV { kind := 3, text := (s.data.toList.drop a).take 4, at_ := a, value := 39, uns := false, long := false }) ?_ rfl ⟨by rw [HN.out]; rfl, ?_⟩
          · rw [HX4.out]; simp [results, Tryd.results25, go_sem, rTokV]
          · ((repeat (first | (with_reducible exact Below.refl _ _) | (with_reducible apply Below.setCell) | (with_reducible apply below_drewN) | (with_reducible apply Below.drew) | (with_reducible apply Below.alloc))) <;> first | omega | (simp; done) | (simp; omega))
        · have HN := Lib.hid (charT_esc (s.data.toList.drop a) none (by rw [HLEN.out]; omega) g1 g3 (by rw [G.out 2 (by omega), hc]))
          have hn : ∀ k, esc k ≠ none → (r[2].toNat : Int) ≠ k := fun k hk e => hk (by rw [← e]; exact hc)
          have b110 : ((r[2].toNat : Int) == 110) = false := by have := hn 110 (by decide); simpa using this
          have b116 : ((r[2].toNat : Int) == 116) = false := by have := hn 116 (by decide); simpa using this
          have b48 : ((r[2].toNat : Int) == 48) = false := by have := hn 48 (by decide); simpa using this
          have b92 : ((r[2].toNat : Int) == 92) = false := by have := hn 92 (by decide); simpa using this
          have b39 : ((r[2].toNat : Int) == 39) = false := by have := hn 39 (by decide); simpa using this
          clear hc g1 g3 hn
          go_enter Tryd.func25, Tryd.ntmps25
          go_wp2_with fail
          refine bodyPost_ret (v := rTokV rtok0) ?_ rfl ⟨by rw [HN.out]; rfl, ?_⟩
          · simp [results, Tryd.results25, go_sem, rTokV, rtok0]; rfl
          · ((repeat (first | (with_reducible exact Below.refl _ _) | (with_reducible apply Below.setCell) | (with_reducible apply below_drewN) | (with_reducible apply Below.drew) | (with_reducible apply Below.alloc))) <;> first | omega | (simp; done) | (simp; omega))
      · have b3 : ((r[3].toNat : Int) == 39) = false := by simpa using h3
        have HN := Lib.hid (charT_no (s.data.toList.drop a) (fun h => by have h5 := h.2.2; rw [G.out 3 (by omega)] at h5; exact h3 ((u8_lit _ 39 (by omega)).1 h5)) (fun h => by have h5 := h.2.1; rw [g1] at h5; exact absurd h5 (by decide)))
        have q4' : ((r[1].toNat : Int) != 92) = false := by simp; omega
        clear h1 h3 g1
        go_enter Tryd.func25, Tryd.ntmps25
        go_wp2_with fail
        all_goals
          refine bodyPost_ret (v := rTokV rtok0) ?_ rfl ⟨by rw [HN.out]; rfl, ?_⟩
          · simp [results, Tryd.results25, go_sem, rTokV, rtok0]; rfl
          · ((repeat (first | (with_reducible exact Below.refl _ _) | (with_reducible apply Below.setCell) | (with_reducible apply below_drewN) | (with_reducible apply Below.drew) | (with_reducible apply Below.alloc))) <;> first | omega | (simp; done) | (simp; omega))
    · have b1 : ((r[1].toNat : Int) == 92) = false := by simpa using h1
      have HNA := Lib.hid (show ¬ (4 ≤ (s.data.toList.drop a).length ∧ (s.data.toList.drop a).getD 1 0 = 92 ∧ (s.data.toList.drop a).getD 3 0 = 39) from fun h => by have h5 := h.2.1; rw [G.out 1 (by omega)] at h5; exact h1 ((u8_lit _ 92 (by omega)).1 h5))
      have hi3 : (3 : Int) ≤ (r.size : Int) := by omega
      by_cases h2 : (r[2].toNat : Int) = 39
      · have b2 : ((r[2].toNat : Int) == 39) = true := by simpa using h2
        have g2 : (s.data.toList.drop a).getD 2 0 = 39 := by rw [G.out 2 (by omega)]; exact (u8_lit _ 39 (by omega)).2 h2
        clear h2
        cases hp : plainB (r[1].toNat : Int) with
        | true =>
          have HN := Lib.hid (charT_pl (s.data.toList.drop a) HNA.out (by rw [HLEN.out]; omega) (by rw [G.out 1 (by omega)]; exact hp) g2)
          have hp' : (32 ≤ r[1].toNat ∧ r[1].toNat ≤ 126) ∧ r[1].toNat ≠ 39 ∧ r[1].toNat ≠ 92 := by simp [plainB] at hp; omega
          have G1 := Lib.hid (G.out 1 (by omega))
          obtain ⟨⟨p1, p2⟩, p3, p4⟩ := hp'
          have q1 : (32 : Int) ≤ (r[1].toNat : Int) := by omega
          have q2 : (r[1].toNat : Int) ≤ 126 := by omega
          have q3 : ((r[1].toNat : Int) == 39) = false := by simp; omega
          have q4 : ((r[1].toNat : Int) == 92) = false := by simp; omega
          have q3' : ((r[1].toNat : Int) != 39) = true := by simp; omega
          have q4' : ((r[1].toNat : Int) != 92) = true := by simp; omega
          clear hp g2 p3 p4
          go_enter Tryd.func25, Tryd.ntmps25
          go_wp2_with fail
          go_region
          go_wp2_with fail
          refine bodyPost_ret (v := rTokV { kind := 3, text := (s.data.toList.drop a).take 3, at_ := a, value := r[1].toNat, uns := false, long := false }) ?_ rfl ⟨by rw [HN.out, G1.out]; rfl, ?_⟩
          · rw [HX3.out]; simp [results, Tryd.results25, go_sem, rTokV]
          · ((repeat (first | (with_reducible exact Below.refl _ _) | (with_reducible apply Below.setCell) | (with_reducible apply below_drewN) | (with_reducible apply Below.drew) | (with_reducible apply Below.alloc))) <;> first | omega | (simp; done) | (simp; omega))
        | false =>
          have HN := Lib.hid (charT_no (s.data.toList.drop a) HNA.out (fun h => by have h2 := h.2.1; rw [G.out 1 (by omega), hp] at h2; cases h2))
          have hp' : r[1].toNat < 32 ∨ 126 < r[1].toNat ∨ r[1].toNat = 39 ∨ r[1].toNat = 92 := by simp [plainB] at hp; omega
          clear hp g2
          rcases hp' with p | p | p | p
          all_goals try (exfalso; omega)
          all_goals
            go_enter Tryd.func25, Tryd.ntmps25
            go_wp2_with fail
            refine bodyPost_ret (v := rTokV rtok0) ?_ rfl ⟨by rw [HN.out]; rfl, ?_⟩
            · simp [results, Tryd.results25, go_sem, rTokV, rtok0]; rfl
            · ((repeat (first | (with_reducible exact Below.refl _ _) | (with_reducible apply Below.setCell) | (with_reducible apply below_drewN) | (with_reducible apply Below.drew) | (with_reducible apply Below.alloc))) <;> first | omega | (simp; done) | (simp; omega))
      · have b2 : ((r[2].toNat : Int) == 39) = false := by simpa using h2
        have HN := Lib.hid (charT_no (s.data.toList.drop a) HNA.out (fun h => by have h3 := h.2.2; rw [G.out 2 (by omega)] at h3; exact h2 ((u8_lit _ 39 (by omega)).1 h3)))
        clear h2
        go_enter Tryd.func25, Tryd.ntmps25
        go_wp2_with fail
        refine bodyPost_ret (v := rTokV rtok0) ?_ rfl ⟨by rw [HN.out]; rfl, ?_⟩
        · simp [results, Tryd.results25, go_sem, rTokV, rtok0]; rfl
        · ((repeat (first | (with_reducible exact Below.refl _ _) | (with_reducible apply Below.setCell) | (with_reducible apply below_drewN) | (with_reducible apply Below.drew) | (with_reducible apply Below.alloc))) <;> first | omega | (simp; done) | (simp; omega))
  · have hi4 : ¬ (4 : Int) ≤ (r.size : Int) := by omega
    have HNA := Lib.hid (show ¬ (4 ≤ (s.data.toList.drop a).length ∧ (s.data.toList.drop a).getD 1 0 = 92 ∧ (s.data.toList.drop a).getD 3 0 = 39) from fun h => by have h5 := h.1; rw [HLEN.out] at h5; omega)
    by_cases h3 : 3 ≤ r.size
    · skip
      have hi3 : (3 : Int) ≤ (r.size : Int) := by omega
      by_cases h2 : (r[2].toNat : Int) = 39
      · have b2 : ((r[2].toNat : Int) == 39) = true := by simpa using h2
        have g2 : (s.data.toList.drop a).getD 2 0 = 39 := by rw [G.out 2 (by omega)]; exact (u8_lit _ 39 (by omega)).2 h2
        clear h2
        cases hp : plainB (r[1].toNat : Int) with
        | true =>
          have HN := Lib.hid (charT_pl (s.data.toList.drop a) HNA.out (by rw [HLEN.out]; omega) (by rw [G.out 1 (by omega)]; exact hp) g2)
          have hp' : (32 ≤ r[1].toNat ∧ r[1].toNat ≤ 126) ∧ r[1].toNat ≠ 39 ∧ r[1].toNat ≠ 92 := by simp [plainB] at hp; omega
          have G1 := Lib.hid (G.out 1 (by omega))
          obtain ⟨⟨p1, p2⟩, p3, p4⟩ := hp'
          have q1 : (32 : Int) ≤ (r[1].toNat : Int) := by omega
          have q2 : (r[1].toNat : Int) ≤ 126 := by omega
          have q3 : ((r[1].toNat : Int) == 39) = false := by simp; omega
          have q4 : ((r[1].toNat : Int) == 92) = false := by simp; omega
          have q3' : ((r[1].toNat : Int) != 39) = true := by simp; omega
          have q4' : ((r[1].toNat : Int) != 92) = true := by simp; omega
          clear hp g2 p3 p4
          go_enter Tryd.func25, Tryd.ntmps25
          go_wp2_with fail
          go_region
          go_wp2_with fail
          refine bodyPost_ret (v := rTokV { kind := 3, text := (s.data.toList.drop a).take 3, at_ := a, value := r[1].toNat, uns := false, long := false }) ?_ rfl ⟨by rw [HN.out, G1.out]; rfl, ?_⟩
          · rw [HX3.out]; simp [results, Tryd.results25, go_sem, rTokV]
          · ((repeat (first | (with_reducible exact Below.refl _ _) | (with_reducible apply Below.setCell) | (with_reducible apply below_drewN) | (with_reducible apply Below.drew) | (with_reducible apply Below.alloc))) <;> first | omega | (simp; done) | (simp; omega))
        | false =>
          have HN := Lib.hid (charT_no (s.data.toList.drop a) HNA.out (fun h => by have h2 := h.2.1; rw [G.out 1 (by omega), hp] at h2; cases h2))
          have hp' : r[1].toNat < 32 ∨ 126 < r[1].toNat ∨ r[1].toNat = 39 ∨ r[1].toNat = 92 := by simp [plainB] at hp; omega
          clear hp g2
          rcases hp' with p | p | p | p
          all_goals try (exfalso; omega)
          all_goals
            go_enter Tryd.func25, Tryd.ntmps25
            go_wp2_with fail
            refine bodyPost_ret (v := rTokV rtok0) ?_ rfl ⟨by rw [HN.out]; rfl, ?_⟩
            · simp [results, Tryd.results25, go_sem, rTokV, rtok0]; rfl
            · ((repeat (first | (with_reducible exact Below.refl _ _) | (with_reducible apply Below.setCell) | (with_reducible apply below_drewN) | (with_reducible apply Below.drew) | (with_reducible apply Below.alloc))) <;> first | omega | (simp; done) | (simp; omega))
      · have b2 : ((r[2].toNat : Int) == 39) = false := by simpa using h2
        have HN := Lib.hid (charT_no (s.data.toList.drop a) HNA.out (fun h => by have h3 := h.2.2; rw [G.out 2 (by omega)] at h3; exact h2 ((u8_lit _ 39 (by omega)).1 h3)))
        clear h2
        go_enter Tryd.func25, Tryd.ntmps25
        go_wp2_with fail
        refine bodyPost_ret (v := rTokV rtok0) ?_ rfl ⟨by rw [HN.out]; rfl, ?_⟩
        · simp [results, Tryd.results25, go_sem, rTokV, rtok0]; rfl
        · ((repeat (first | (with_reducible exact Below.refl _ _) | (with_reducible apply Below.setCell) | (with_reducible apply below_drewN) | (with_reducible apply Below.drew) | (with_reducible apply Below.alloc))) <;> first | omega | (simp; done) | (simp; omega))
    · have hi3 : ¬ (3 : Int) ≤ (r.size : Int) := by omega
      have HN := Lib.hid (charT_no (s.data.toList.drop a) HNA.out (fun h => by have h5 := h.1; rw [HLEN.out] at h5; omega))
      go_enter Tryd.func25, Tryd.ntmps25
      go_wp2_with fail
      refine bodyPost_ret (v := rTokV rtok0) ?_ rfl ⟨by rw [HN.out]; rfl, ?_⟩
      · simp [results, Tryd.results25, go_sem, rTokV, rtok0]; rfl
      · ((repeat (first | (with_reducible exact Below.refl _ _) | (with_reducible apply Below.setCell) | (with_reducible apply below_drewN) | (with_reducible apply Below.drew) | (with_reducible apply Below.alloc))) <;> first | omega | (simp; done) | (simp; omega))
end Go.Proofs.YtamimaoaafapbaaDoor
