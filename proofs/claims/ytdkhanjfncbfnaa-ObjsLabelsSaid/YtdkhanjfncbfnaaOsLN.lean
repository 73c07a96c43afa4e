import Derived.Test.YtdkhanjfncbfnaaOsLM
import Derived.BigQuiet
namespace Go.Proofs.Ytdkhanjfncbfnaa
open Go Go.RowKit
set_option linter.unusedVariables false
set_option linter.unusedSimpArgs false

set_option maxRecDepth 100000 in
set_option maxHeartbeats 16000000 in
theorem labels_any (a0 : Option Addr) (len0 cap0 : Nat) (hlen : len0 ≤ 9223372036854775807) (kd : Int) (sa0 : Option Addr) (sl0 sc0 : Nat) (hsl0 : sl0 ≤ 9223372036854775807) (sec : Bool) (w : World) (hin : RecsIn w a0 len0) (hst0 : Steps w sa0 sl0) (hbd0 : 0 < sl0 → ∀ x, sa0 = some x → x.block < w.heap.size) :
    Calls Try.prog 4 #[.slice a0 len0 cap0, .agg #[.int .i64 kd, .slice sa0 sl0 sc0], .bool sec] w (BoolRes true w) := by
  have HIN := Lib.hid hin
  have HST0 := Lib.hid hst0
  have HBD0 := Lib.hid hbd0
  clear hin hst0 hbd0
  obtain ⟨f0, hf1, hf2, hf3, hf4⟩ := info_parts infoFld
  have F1 := Lib.hid hf1
  have F2 := Lib.hid hf2
  have F3 := Lib.hid hf3
  have F4 := Lib.hid hf4
  clear hf1 hf2 hf3 hf4
  go_enter Try.func4, Try.ntmps4
  go_wp2_with fail
  have hb0 : Below w.heap.size w (w.alloc (.cells #[.int .i64 kd, .slice sa0 sl0 sc0] 44)) := (Below.refl _ _).alloc (Nat.le_refl _) _
  refine (fit_any _).mono ?_
  rintro e w1 ⟨rfl, hb1⟩
  have HB1 : Hid (Below w.heap.size w w1) := Lib.hid (hb0.trans (hb1.mono hb0.size))
  have q0 : w1.cell? ⟨w.heap.size, 0, none⟩ = some (.int .i64 kd) := by rw [hb1.cell (by simp)]; exact cell_new _ _ _ _ _ rfl
  have q1 : w1.cell? ⟨w.heap.size, 1, none⟩ = some (.slice sa0 sl0 sc0) := by rw [hb1.cell (by simp)]; exact cell_new _ _ _ _ _ rfl
  have HQ := Lib.hid (And.intro q0 q1)
  have HQL := Lib.hid (show w.heap.size < w1.heap.size from lt_of_cellC q0)
  clear hb0 hb1 q0 q1
  by_cases h20 : 20 < len0
  · have h20i : (20 : Int) < len0 := by omega
    go_wp2_with fail
    go_ret
    exact ⟨rfl, HB1.out.alloc HB1.out.size _⟩
  · have h20i : ¬ (20 : Int) < len0 := by omega
    go_wp2_with fail
    obtain ⟨W, hW⟩ : ∃ W, W = w1.alloc (.cells #[.slice none 0 0] 48) := ⟨_, rfl⟩
    obtain ⟨tb, htb⟩ : ∃ tb, tb = w1.heap.size := ⟨_, rfl⟩
    rw [← hW, ← htb]
    have hbW : Below w1.heap.size w1 W := by rw [hW]; exact (Below.refl _ _).alloc (Nat.le_refl _) _
    have HBU : Hid (Built1 W tb 0) := Lib.hid (built1_none (by rw [hW, htb]; exact cell_new _ _ _ _ _ rfl) (by rw [hW, htb]; exact frozen_new _ _ _ _ _ rfl))
    have HBW : Hid (Below tb w1 W) := Lib.hid (by rw [htb]; exact hbW)
    have HTB := Lib.hid (show w.heap.size < tb ∧ tb = w1.heap.size from by rw [htb]; exact ⟨HQL.out, rfl⟩)
    clear hW htb hbW
    go_loopw [29] (fun s29 wr => ∃ i n : Nat, s29 = .int .i64 i ∧ i ≤ len0 ∧ Hid (Below tb w1 wr) ∧ Hid (Built1 wr tb n)) (fun s29 _ => len0 - (intOf s29).toNat)
    case atStart => exact ⟨0, 0, rfl, by omega, HBW, HBU⟩
    case round =>
      obtain ⟨i, n, rfl, hi, HBR, HBN⟩ := hrel
      have HBX : Hid (Below w.heap.size w wr) := Lib.hid (HB1.out.trans (HBR.out.mono (Nat.le_of_lt HTB.out.1)))
      have HTL := Lib.hid HBN.out.lt
      by_cases hlt : i < len0
      · obtain ⟨b, off, rfl, hcells⟩ : ∃ b off : Nat, a0 = some ⟨b, off, none⟩ ∧ ∀ i, i < len0 → ∃ (nm : ByteArray) (va : Option Addr) (vn vc : Nat) (sa : Option Addr) (sn sc : Nat), w.cell? ⟨b, off + i * 3, none⟩ = some (.string nm) ∧ w.cell? ⟨b, off + i * 3 + 1, none⟩ = some (.slice va vn vc) ∧ w.cell? ⟨b, off + i * 3 + 2, none⟩ = some (.slice sa sn sc) ∧ vn ≤ 9223372036854775807 ∧ sn ≤ 9223372036854775807 ∧ NamesIn w va vn ∧ ShapesIn w sa sn := by
          rcases HIN.out with h | h
          · omega
          · exact h
        obtain ⟨nm, va, vn, vc, sa, sn, sc, c0, c1, c2, hvn, hsn, hnames, hshapes⟩ := hcells i hlt
        have hbl := World.block_lt_of_cell? w _ c0
        simp at hbl
        have q0 : wr.cell? ⟨b, off + i * 3, none⟩ = some (.string nm) := by rw [HBX.out.cell (by exact hbl)]; exact c0
        have q1 : wr.cell? ⟨b, off + i * 3 + 1, none⟩ = some (.slice va vn vc) := by rw [HBX.out.cell (by exact hbl)]; exact c1
        have q2 : wr.cell? ⟨b, off + i * 3 + 2, none⟩ = some (.slice sa sn sc) := by rw [HBX.out.cell (by exact hbl)]; exact c2
        have HNMW := Lib.hid hnames
        have HSHW := Lib.hid hshapes
        have hil : (i : Int) < len0 := by omega
        clear hcells c0 c1 c2 hnames hshapes
        by_cases h20s : 20 < sn
        · have h20t : (20 : Int) < sn := by omega
          go_wp2_with fail
          go_ret
          exact ⟨rfl, HBX.out.alloc HBX.out.size _⟩
        · have h20t : ¬ (20 : Int) < sn := by omega
          go_wp2_with fail
          obtain ⟨X, hX⟩ : ∃ X, X = wr.heap.size := ⟨_, rfl⟩
          obtain ⟨Z, hZ⟩ : ∃ Z, Z = wr.alloc (.cells #[.string nm, .slice va vn vc, .slice sa sn sc] 52) := ⟨_, rfl⟩
          rw [← hX, ← hZ]
          have hbZ : Below wr.heap.size wr Z := by rw [hZ]; exact (Below.refl _ _).alloc (Nat.le_refl _) _
          have hZs : Z.heap.size = wr.heap.size + 1 := by rw [hZ]; simp
          have HX0 : Hid (Z.cell? ⟨X, 0, none⟩ = some (.string nm)) := Lib.hid (by rw [hZ, hX]; exact cell_new _ _ _ _ _ rfl)
          have HX1 : Hid (Z.cell? ⟨X, 1, none⟩ = some (.slice va vn vc)) := Lib.hid (by rw [hZ, hX]; exact cell_new _ _ _ _ _ rfl)
          have HXZ := Lib.hid (show X < Z.heap.size ∧ w.heap.size ≤ Z.heap.size ∧ tb < Z.heap.size from by have h1 := HBX.out.size; have h2 := HTL.out; omega)
          have HBZ := Lib.hid hbZ
          have HBXZ : Hid (Below w.heap.size w Z) := Lib.hid (HBX.out.trans (hbZ.mono HBX.out.size))
          have HFS : Hid (FS Z 0 (.slice none 0 0) Z (fun _ => ⟨#[]⟩) (fun _ => .void) (fun _ => none)) := Lib.hid ⟨World.ownsRow_nil _ _ _ _, fun j h => by omega, fun j h => by omega, Below.refl _ _, fun _ => rfl⟩
          clear hX hZ hbZ hZs q0 q1 q2
          go_loopw [40, 10] (fun s40 s10 wq => ∃ (k : Nat) (NM : Nat → ByteArray) (TY : Nat → Ty) (EL : Nat → Option Addr), s40 = .int .i64 k ∧ k ≤ sn ∧ Hid (FS Z k s10 wq NM TY EL)) (fun s40 _ _ => sn - (intOf s40).toNat)
          case atStart => exact ⟨0, _, _, _, rfl, by omega, HFS⟩
          case round =>
            obtain ⟨k, NM, TY, EL, rfl, hk, HF⟩ := hrel
            have HBQ : Hid (Below w.heap.size w wr) := Lib.hid (HBXZ.out.trans (HF.out.b.mono HXZ.out.2.1))
            have hxl : X < wr.heap.size := Nat.lt_of_lt_of_le HXZ.out.1 HF.out.b.size
            have x1 : wr.cell? ⟨X, 1, none⟩ = some (.slice va vn vc) := by rw [HF.out.b.cell (by exact HXZ.out.1)]; exact HX1.out
            have HZR := Lib.hid HF.out.b
            have HWR : Hid (Below w.heap.size w wr) := HBQ
            by_cases hlt2 : k < sn
            · obtain ⟨bs, offs, rfl, hsc⟩ : ∃ bs offs : Nat, sa = some ⟨bs, offs, none⟩ ∧ ∀ i, i < sn → ∃ (k : Int) (ta : Option Addr) (tl tc : Nat), w.cell? ⟨bs, offs + i * 2, none⟩ = some (.int .i64 k) ∧ w.cell? ⟨bs, offs + i * 2 + 1, none⟩ = some (.slice ta tl tc) ∧ tl ≤ 9223372036854775807 ∧ Steps w ta tl ∧ (0 < tl → ∀ x, ta = some x → x.block < w.heap.size) := by
                rcases HSHW.out with h | h
                · omega
                · exact h
              obtain ⟨sv, ta, tl, tc, e0, e1, htl, hst, hbd⟩ := hsc k hlt2
              have hbs := World.block_lt_of_cell? w _ e0
              simp at hbs
              have p0 : wr.cell? ⟨bs, offs + k * 2, none⟩ = some (.int .i64 sv) := by rw [HBQ.out.cell (by exact hbs)]; exact e0
              have p1 : wr.cell? ⟨bs, offs + k * 2 + 1, none⟩ = some (.slice ta tl tc) := by rw [HBQ.out.cell (by exact hbs)]; exact e1
              have HST := Lib.hid hst
              have HBD := Lib.hid hbd
              have hkl : (k : Int) < sn := by omega
              clear hsc e0 e1 hst hbd hbs
              go_upto_region 15 with fail
              obtain ⟨w2, hw2⟩ : ∃ w2, w2 = wr.alloc (.cells #[.int .i64 sv, .slice ta tl tc] 44) := ⟨_, rfl⟩
              obtain ⟨Y0, hY0⟩ : ∃ Y0, Y0 = wr.heap.size := ⟨_, rfl⟩
              rw [← hw2, ← hY0]
              have hb2 : Below wr.heap.size wr w2 := by rw [hw2]; exact (Below.refl _ _).alloc (Nat.le_refl _) _
              have y0 : w2.cell? ⟨Y0, 0, none⟩ = some (.int .i64 sv) := by rw [hw2, hY0]; exact cell_new _ _ _ _ _ rfl
              have y1 : w2.cell? ⟨Y0, 1, none⟩ = some (.slice ta tl tc) := by rw [hw2, hY0]; exact cell_new _ _ _ _ _ rfl
              have HB2 := Lib.hid hb2
              have hbw2 : Below w.heap.size w w2 := HBQ.out.trans (hb2.mono HBQ.out.size)
              have HTY := Lib.hid (type_ok sv ta tl tc htl w2 (HST.out.below HBD.out hbw2) (fun h x hx => Nat.lt_of_lt_of_le (HBD.out h x hx) hbw2.size))
              clear hw2 hY0 hb2 hbw2 p0 p1 x1
              go_wp2_with fail
              (with_reducible refine HTY.out.mono ?_)
              rintro e w3 ⟨t, el, ok, rfl, hel, hb3, hok⟩
              have HEL := Lib.hid hel
              have HOK := Lib.hid hok
              have HB3 : Hid (Below wr.heap.size wr w3) := Lib.hid (HB2.out.trans (hb3.mono HB2.out.size))
              have HB23 := Lib.hid hb3
              clear hel hok hb3 y0 y1 HTY
              unfold tyV
              cases ok
              · go_wp2_with fail
                go_ret
                have hbb := HBQ.out.trans (HB3.out.mono HBQ.out.size)
                exact ⟨rfl, hbb.alloc hbb.size _⟩
              · go_upto_region 16 with fail
                obtain ⟨w4, hw4⟩ : ∃ w4, w4 = w3.alloc (.cells #[.int .i64 t.kind, .int .i64 t.size, .bool t.sg, .bool t.sc, .pointer el, .int .i64 t.len, .int .i64 t.num, .slice none 0 0, .pointer none] 57) := ⟨_, rfl⟩
                obtain ⟨Y, hY⟩ : ∃ Y, Y = w3.heap.size := ⟨_, rfl⟩
                rw [← hw4, ← hY]
                have hb4 : Below w3.heap.size w3 w4 := by rw [hw4]; exact (Below.refl _ _).alloc (Nat.le_refl _) _
                have HB4 : Hid (Below wr.heap.size wr w4) := Lib.hid (HB3.out.trans (hb4.mono HB3.out.size))
                have HY9 : Hid (w4.cell? ⟨Y, 0, none⟩ = some (.int .i64 t.kind) ∧ w4.cell? ⟨Y, 1, none⟩ = some (.int .i64 t.size) ∧ w4.cell? ⟨Y, 2, none⟩ = some (.bool t.sg) ∧ w4.cell? ⟨Y, 3, none⟩ = some (.bool t.sc) ∧ w4.cell? ⟨Y, 4, none⟩ = some (.pointer el) ∧ w4.cell? ⟨Y, 5, none⟩ = some (.int .i64 t.len) ∧ w4.cell? ⟨Y, 6, none⟩ = some (.int .i64 t.num) ∧ w4.cell? ⟨Y, 7, none⟩ = some (.slice none 0 0) ∧ w4.cell? ⟨Y, 8, none⟩ = some (.pointer none)) := Lib.hid (by rw [hw4, hY]; exact ⟨cell_new _ _ _ _ _ rfl, cell_new _ _ _ _ _ rfl, cell_new _ _ _ _ _ rfl, cell_new _ _ _ _ _ rfl, cell_new _ _ _ _ _ rfl, cell_new _ _ _ _ _ rfl, cell_new _ _ _ _ _ rfl, cell_new _ _ _ _ _ rfl, cell_new _ _ _ _ _ rfl⟩)
                have hx4 : w4.cell? ⟨X, 1, none⟩ = some (.slice va vn vc) := by rw [HB4.out.cell (by exact hxl), HF.out.b.cell (by exact HXZ.out.1)]; exact HX1.out
                have HELI : Hid (ElIn w4 (fun b => wr.heap.size ≤ b ∧ b < w4.heap.size) t el) := Lib.hid (ElIn.keep (P := fun b => w2.heap.size ≤ b ∧ b < w3.heap.size) (fun b hb o => hb4.cell (p := ⟨b, o, none⟩) hb.2) (fun b hb => ⟨Nat.le_trans HB2.out.size hb.1, Nat.lt_of_lt_of_le hb.2 hb4.size⟩) (ElIn.of (fun b h1 h2 => ⟨h1, h2⟩) HEL.out))
                have HYW := Lib.hid (show wr.heap.size ≤ Y from by rw [hY]; exact HB3.out.size)
                clear hw4 hY hb4
                by_cases hvk : vn ≤ k
                · have hvk2 : (vn : Int) ≤ k := by omega
                  go_wp2_with fail
                  go_ret
                  exact ⟨rfl, HBQ.out.trans (HB4.out.mono HBQ.out.size)⟩
                · have hvk2 : ¬ (vn : Int) ≤ k := by omega
                  have hkv : (k : Int) < vn := by omega
                  obtain ⟨nb, noff, rfl, hns⟩ : ∃ nb noff : Nat, va = some ⟨nb, noff, none⟩ ∧ ∀ i, i < vn → ∃ s : ByteArray, w.cell? ⟨nb, noff + i, none⟩ = some (.string s) := by
                    rcases HNMW.out with h | h
                    · omega
                    · exact h
                  obtain ⟨s, hs⟩ := hns k (by omega)
                  have hnb := World.block_lt_of_cell? w _ hs
                  simp at hnb
                  have HSN : Hid (w4.cell? ⟨nb, noff + k, none⟩ = some (.string s)) := Lib.hid (by
                    have hbb := HBQ.out.trans (HB4.out.mono HBQ.out.size)
                    rw [hbb.cell (by exact hnb)]; exact hs)
                  have HX4 := Lib.hid hx4
                  have HNB := Lib.hid hnb
                  clear hns hs hnb
                  go_upto_region 18 with fail
                  have SD : Hid (w4.cell? ⟨X, 1, none⟩ = some (.slice (some ⟨nb, noff, none⟩) vn vc) ∧ w4.cell? ⟨nb, noff + k, none⟩ = some (.string s) ∧ w4.cell? ⟨Y, 0, none⟩ = some (.int .i64 t.kind) ∧ w4.cell? ⟨Y, 1, none⟩ = some (.int .i64 t.size) ∧ w4.cell? ⟨Y, 2, none⟩ = some (.bool t.sg) ∧ w4.cell? ⟨Y, 3, none⟩ = some (.bool t.sc) ∧ w4.cell? ⟨Y, 4, none⟩ = some (.pointer el) ∧ w4.cell? ⟨Y, 5, none⟩ = some (.int .i64 t.len) ∧ w4.cell? ⟨Y, 6, none⟩ = some (.int .i64 t.num) ∧ w4.cell? ⟨Y, 7, none⟩ = some (.slice none 0 0) ∧ w4.cell? ⟨Y, 8, none⟩ = some (.pointer none)) := Lib.hid ⟨HX4.out, HSN.out, HY9.out⟩
                  have SE : Hid (w4.drew.cell? ⟨X, 1, none⟩ = some (.slice (some ⟨nb, noff, none⟩) vn vc) ∧ w4.drew.cell? ⟨nb, noff + k, none⟩ = some (.string s) ∧ w4.drew.cell? ⟨Y, 0, none⟩ = some (.int .i64 t.kind) ∧ w4.drew.cell? ⟨Y, 1, none⟩ = some (.int .i64 t.size) ∧ w4.drew.cell? ⟨Y, 2, none⟩ = some (.bool t.sg) ∧ w4.drew.cell? ⟨Y, 3, none⟩ = some (.bool t.sc) ∧ w4.drew.cell? ⟨Y, 4, none⟩ = some (.pointer el) ∧ w4.drew.cell? ⟨Y, 5, none⟩ = some (.int .i64 t.len) ∧ w4.drew.cell? ⟨Y, 6, none⟩ = some (.int .i64 t.num) ∧ w4.drew.cell? ⟨Y, 7, none⟩ = some (.slice none 0 0) ∧ w4.drew.cell? ⟨Y, 8, none⟩ = some (.pointer none)) := Lib.hid SD.out
                  refine wp_region_held_drew (S := (fun w' => w'.cell? ⟨X, 1, none⟩ = some (.slice (some ⟨nb, noff, none⟩) vn vc) ∧ w'.cell? ⟨nb, noff + k, none⟩ = some (.string s) ∧ w'.cell? ⟨Y, 0, none⟩ = some (.int .i64 t.kind) ∧ w'.cell? ⟨Y, 1, none⟩ = some (.int .i64 t.size) ∧ w'.cell? ⟨Y, 2, none⟩ = some (.bool t.sg) ∧ w'.cell? ⟨Y, 3, none⟩ = some (.bool t.sc) ∧ w'.cell? ⟨Y, 4, none⟩ = some (.pointer el) ∧ w'.cell? ⟨Y, 5, none⟩ = some (.int .i64 t.len) ∧ w'.cell? ⟨Y, 6, none⟩ = some (.int .i64 t.num) ∧ w'.cell? ⟨Y, 7, none⟩ = some (.slice none 0 0) ∧ w'.cell? ⟨Y, 8, none⟩ = some (.pointer none))) (by kernel_rfl) (by (first | (with_reducible exact SD.out) | (with_reducible exact SE.out))) (fun hHeld => ?_)
                  refine takeD (i := 0) (d := 59) (v := ?_) rfl rfl (by kernel_rfl) (by kernel_rfl) (by kernel_rfl) (fun _ _ _ h => h) (Or.inl ⟨by rfl, ?_⟩) (by assumption) ?_
                  rotate_left
                  · intro w hSw
                    obtain ⟨a1, a2, b0, b1, b2, b3, b4, b5, b6, b7, b8⟩ := hSw
                    go_simp
                    (try with_reducible rfl)
                  (try simp only [Act.put, List.setIfInBounds_toArray, List.set_cons_zero, List.set_cons_succ])
                  refine takeD (i := 1) (d := 60) (v := ?_) rfl rfl (by kernel_rfl) (by kernel_rfl) (by kernel_rfl) (fun _ _ _ h => h) (Or.inl ⟨by rfl, ?_⟩) (by assumption) ?_
                  rotate_left
                  · intro w hSw
                    obtain ⟨a1, a2, b0, b1, b2, b3, b4, b5, b6, b7, b8⟩ := hSw
                    go_simp
                    (try with_reducible rfl)
                  (try simp only [Act.put, List.setIfInBounds_toArray, List.set_cons_zero, List.set_cons_succ])
                  refine takeD (i := 2) (d := 61) (v := ?_) rfl rfl (by kernel_rfl) (by kernel_rfl) (by kernel_rfl) (fun _ _ _ h => h) (Or.inl ⟨by rfl, ?_⟩) (by assumption) ?_
                  rotate_left
                  · intro w hSw
                    obtain ⟨a1, a2, b0, b1, b2, b3, b4, b5, b6, b7, b8⟩ := hSw
                    go_simp
                    (try with_reducible rfl)
                  (try simp only [Act.put, List.setIfInBounds_toArray, List.set_cons_zero, List.set_cons_succ])
                  refine takeD (i := 3) (d := 62) (v := ?_) rfl rfl (by kernel_rfl) (by kernel_rfl) (by kernel_rfl) (fun _ _ _ h => h) (Or.inl ⟨by rfl, ?_⟩) (by assumption) ?_
                  rotate_left
                  · intro w hSw
                    obtain ⟨a1, a2, b0, b1, b2, b3, b4, b5, b6, b7, b8⟩ := hSw
                    go_simp
                    (try with_reducible rfl)
                  (try simp only [Act.put, List.setIfInBounds_toArray, List.set_cons_zero, List.set_cons_succ])
                  refine takeD (i := 4) (d := 63) (v := ?_) rfl rfl (by kernel_rfl) (by kernel_rfl) (by kernel_rfl) (fun _ _ _ h => h) (Or.inl ⟨by rfl, ?_⟩) (by assumption) ?_
                  rotate_left
                  · intro w hSw
                    obtain ⟨a1, a2, b0, b1, b2, b3, b4, b5, b6, b7, b8⟩ := hSw
                    go_simp
                    (try with_reducible rfl)
                  (try simp only [Act.put, List.setIfInBounds_toArray, List.set_cons_zero, List.set_cons_succ])
                  refine takeD (i := 5) (d := 64) (v := ?_) rfl rfl (by kernel_rfl) (by kernel_rfl) (by kernel_rfl) (fun _ _ _ h => h) (Or.inl ⟨by rfl, ?_⟩) (by assumption) ?_
                  rotate_left
                  · intro w hSw
                    obtain ⟨a1, a2, b0, b1, b2, b3, b4, b5, b6, b7, b8⟩ := hSw
                    go_simp
                    (try with_reducible rfl)
                  (try simp only [Act.put, List.setIfInBounds_toArray, List.set_cons_zero, List.set_cons_succ])
                  refine takeD (i := 6) (d := 65) (v := ?_) rfl rfl (by kernel_rfl) (by kernel_rfl) (by kernel_rfl) (fun _ _ _ h => h) (Or.inl ⟨by rfl, ?_⟩) (by assumption) ?_
                  rotate_left
                  · intro w hSw
                    obtain ⟨a1, a2, b0, b1, b2, b3, b4, b5, b6, b7, b8⟩ := hSw
                    go_simp
                    (try with_reducible rfl)
                  (try simp only [Act.put, List.setIfInBounds_toArray, List.set_cons_zero, List.set_cons_succ])
                  refine takeD (i := 7) (d := 66) (v := ?_) rfl rfl (by kernel_rfl) (by kernel_rfl) (by kernel_rfl) (fun _ _ _ h => h) (Or.inl ⟨by rfl, ?_⟩) (by assumption) ?_
                  rotate_left
                  · intro w hSw
                    obtain ⟨a1, a2, b0, b1, b2, b3, b4, b5, b6, b7, b8⟩ := hSw
                    go_simp
                    (try with_reducible rfl)
                  (try simp only [Act.put, List.setIfInBounds_toArray, List.set_cons_zero, List.set_cons_succ])
                  refine wpAnyH_ready (rs := [8]) (by kernel_rfl) (by simp) ?_
                  refine AllReadyH.cons rfl (fun K hK => ?_) AllReadyH.nil
                  go_simp
                  obtain ⟨W5, hW5⟩ : ∃ W5, W5 = (w4.alloc (.cells #[.string s, .int .i64 t.kind, .int .i64 t.size, .bool t.sg, .bool t.sc, .pointer el, .int .i64 t.len, .int .i64 t.num, .slice none 0 0, .pointer none, .int .i64 0] 61)).drew := ⟨_, rfl⟩
                  obtain ⟨LB, hLB⟩ : ∃ LB, LB = w4.heap.size := ⟨_, rfl⟩
                  rw [← hW5, ← hLB]
                  have hb5 : Below w4.heap.size w4 W5 := by rw [hW5]; exact ((Below.refl _ _).alloc (Nat.le_refl _) _).drew
                  have hblk : W5.heap[LB]? = some (.cells #[.string s, .int .i64 t.kind, .int .i64 t.size, .bool t.sg, .bool t.sc, .pointer el, .int .i64 t.len, .int .i64 t.num, .slice none 0 0, .pointer none, .int .i64 0] 61 (0, 0)) := by rw [hW5, hLB]; exact heap_alloc_new w4 _
                  have hbr5 : Below wr.heap.size wr W5 := HB4.out.trans (hb5.mono HB4.out.size)
                  have HB5 := Lib.hid hbr5
                  have HBLK := Lib.hid hblk
                  have HFN := Lib.hid (HF.out.next s t el)
                  have HOWN := Lib.hid (ownsRow_below HFN.out.o hbr5)
                  have HEL5 : Hid (ElIn W5 (fun b => wr.heap.size ≤ b ∧ b < W5.heap.size) ((upd TY k t) k) ((upd EL k el) k)) := Lib.hid (by rw [upd_at, upd_at]; exact HELI.out.keep (fun b hp o => hb5.cell (p := ⟨b, o, none⟩) hp.2) (fun b hp => ⟨hp.1, Nat.lt_of_lt_of_le hp.2 hb5.size⟩))
                  have HDD := SE.out
                  clear SD SE
                  have SD : Hid (W5.cell? ⟨X, 1, none⟩ = some (.slice (some ⟨nb, noff, none⟩) vn vc) ∧ W5.cell? ⟨nb, noff + k, none⟩ = some (.string s) ∧ W5.cell? ⟨Y, 0, none⟩ = some (.int .i64 t.kind) ∧ W5.cell? ⟨Y, 1, none⟩ = some (.int .i64 t.size) ∧ W5.cell? ⟨Y, 2, none⟩ = some (.bool t.sg) ∧ W5.cell? ⟨Y, 3, none⟩ = some (.bool t.sc) ∧ W5.cell? ⟨Y, 4, none⟩ = some (.pointer el) ∧ W5.cell? ⟨Y, 5, none⟩ = some (.int .i64 t.len) ∧ W5.cell? ⟨Y, 6, none⟩ = some (.int .i64 t.num) ∧ W5.cell? ⟨Y, 7, none⟩ = some (.slice none 0 0) ∧ W5.cell? ⟨Y, 8, none⟩ = some (.pointer none)) := Lib.hid (by
                    obtain ⟨a1, a2, b0, b1, b2, b3, b4, b5, b6, b7, b8⟩ := HDD
                    exact ⟨by rw [hb5.cell (by exact lt_of_cellC a1)]; exact a1, by rw [hb5.cell (by exact lt_of_cellC a2)]; exact a2, by rw [hb5.cell (by exact lt_of_cellC b0)]; exact b0, by rw [hb5.cell (by exact lt_of_cellC b0)]; exact b1, by rw [hb5.cell (by exact lt_of_cellC b0)]; exact b2, by rw [hb5.cell (by exact lt_of_cellC b0)]; exact b3, by rw [hb5.cell (by exact lt_of_cellC b0)]; exact b4, by rw [hb5.cell (by exact lt_of_cellC b0)]; exact b5, by rw [hb5.cell (by exact lt_of_cellC b0)]; exact b6, by rw [hb5.cell (by exact lt_of_cellC b0)]; exact b7, by rw [hb5.cell (by exact lt_of_cellC b0)]; exact b8⟩)
                  clear HDD
                  have SE : Hid (W5.drew.cell? ⟨X, 1, none⟩ = some (.slice (some ⟨nb, noff, none⟩) vn vc) ∧ W5.drew.cell? ⟨nb, noff + k, none⟩ = some (.string s) ∧ W5.drew.cell? ⟨Y, 0, none⟩ = some (.int .i64 t.kind) ∧ W5.drew.cell? ⟨Y, 1, none⟩ = some (.int .i64 t.size) ∧ W5.drew.cell? ⟨Y, 2, none⟩ = some (.bool t.sg) ∧ W5.drew.cell? ⟨Y, 3, none⟩ = some (.bool t.sc) ∧ W5.drew.cell? ⟨Y, 4, none⟩ = some (.pointer el) ∧ W5.drew.cell? ⟨Y, 5, none⟩ = some (.int .i64 t.len) ∧ W5.drew.cell? ⟨Y, 6, none⟩ = some (.int .i64 t.num) ∧ W5.drew.cell? ⟨Y, 7, none⟩ = some (.slice none 0 0) ∧ W5.drew.cell? ⟨Y, 8, none⟩ = some (.pointer none)) := Lib.hid SD.out
                  have HY5 := Lib.hid (show wr.heap.size ≤ Y from HYW.out)
                  clear hW5 hLB hb5 hblk hbr5
                  refine hK.out _ _ ?_ (fun hHeld2 => ?_)
                  · (first | (with_reducible exact SD.out) | (with_reducible exact SE.out))
                  clear hHeld hK K
                  have hHeld := hHeld2
                  clear hHeld2
                  (try simp only [Act.put, List.setIfInBounds_toArray, List.set_cons_zero, List.set_cons_succ])
                  refine wpAnyH_ready (rs := [9]) (by kernel_rfl) (by simp) ?_
                  refine AllReadyH.cons rfl (fun K hK => ?_) AllReadyH.nil
                  refine step_append_lies W5 (by rfl) _ _ 53 (by rfl) Z.heap.size 61 f0 fld0 11 104 Try.underlying53 F1.out F2.out F3.out F4.out rfl (by omega) u10 k (cellsT (upd NM k s) (upd TY k t) (upd EL k el) (fun _ => 0) k) (by rfl) HOWN.out ⟨LB, 0, none⟩ 1 1 [.string s, .int .i64 t.kind, .int .i64 t.size, .bool t.sg, .bool t.sc, .pointer el, .int .i64 t.len, .int .i64 t.num, .slice none 0 0, .pointer none, .int .i64 0] (by rfl) rfl (World.news_of_block HBLK.out) (by simp [Value.oneCell']) (by omega) (by unfold maxLen; omega) (by omega) (by have h1 := HZR.out.size; have h2 := HB5.out.size; omega) W5.heap.size rfl ?_
                  intro gF cF w6 hown hgrow hat hlt9
                  have HF6 : Hid (FS Z (k + 1) (.slice (some ⟨gF, 0, none⟩) (k + 1) cF) w6 (upd NM k s) (upd TY k t) (upd EL k el)) := Lib.hid (HFN.out.push HB5.out (by rw [upd_at]; exact HOK.out) HEL5.out hgrow hat (by rw [cellsT]; simp only [upd_at]; exact hown))
                  have hfar : ∀ b o, b < W5.heap.size → (∀ q, u10.ownBlock = some q → b ≠ q) → w6.cell? ⟨b, o, none⟩ = W5.cell? ⟨b, o, none⟩ := fun b o h1 h2 => hgrow.cell_far _ h1 (fun e => h2 b e.symm rfl)
                  have hown10 : ∀ q, u10.ownBlock = some q → Z.heap.size ≤ q ∧ q < wr.heap.size := fun q hq => HF.out.o.lt q hq
                  have HDD := SD.out
                  clear SD SE
                  have SD : Hid (w6.cell? ⟨X, 1, none⟩ = some (.slice (some ⟨nb, noff, none⟩) vn vc) ∧ w6.cell? ⟨nb, noff + k, none⟩ = some (.string s) ∧ w6.cell? ⟨Y, 0, none⟩ = some (.int .i64 t.kind) ∧ w6.cell? ⟨Y, 1, none⟩ = some (.int .i64 t.size) ∧ w6.cell? ⟨Y, 2, none⟩ = some (.bool t.sg) ∧ w6.cell? ⟨Y, 3, none⟩ = some (.bool t.sc) ∧ w6.cell? ⟨Y, 4, none⟩ = some (.pointer el) ∧ w6.cell? ⟨Y, 5, none⟩ = some (.int .i64 t.len) ∧ w6.cell? ⟨Y, 6, none⟩ = some (.int .i64 t.num) ∧ w6.cell? ⟨Y, 7, none⟩ = some (.slice none 0 0) ∧ w6.cell? ⟨Y, 8, none⟩ = some (.pointer none)) := Lib.hid (by
                    obtain ⟨a1, a2, b0, b1, b2, b3, b4, b5, b6, b7, b8⟩ := HDD
                    have l1 := lt_of_cellC a1
                    have l2 := lt_of_cellC a2
                    have l3 := lt_of_cellC b0
                    have n1 : ∀ q, u10.ownBlock = some q → X ≠ q := fun q hq => by have h1 := (hown10 q hq).1; have h2 := HXZ.out.1; omega
                    have n2 : ∀ q, u10.ownBlock = some q → nb ≠ q := fun q hq => by have h1 := (hown10 q hq).1; have h2 := HXZ.out.2.1; have h3 := HNB.out; omega
                    have n3 : ∀ q, u10.ownBlock = some q → Y ≠ q := fun q hq => by have h1 := (hown10 q hq).2; have h2 := HY5.out; omega
                    exact ⟨by rw [hfar _ _ l1 n1]; exact a1, by rw [hfar _ _ l2 n2]; exact a2, by rw [hfar _ _ l3 n3]; exact b0, by rw [hfar _ _ l3 n3]; exact b1, by rw [hfar _ _ l3 n3]; exact b2, by rw [hfar _ _ l3 n3]; exact b3, by rw [hfar _ _ l3 n3]; exact b4, by rw [hfar _ _ l3 n3]; exact b5, by rw [hfar _ _ l3 n3]; exact b6, by rw [hfar _ _ l3 n3]; exact b7, by rw [hfar _ _ l3 n3]; exact b8⟩)
                  clear HDD
                  have SE : Hid (w6.drew.cell? ⟨X, 1, none⟩ = some (.slice (some ⟨nb, noff, none⟩) vn vc) ∧ w6.drew.cell? ⟨nb, noff + k, none⟩ = some (.string s) ∧ w6.drew.cell? ⟨Y, 0, none⟩ = some (.int .i64 t.kind) ∧ w6.drew.cell? ⟨Y, 1, none⟩ = some (.int .i64 t.size) ∧ w6.drew.cell? ⟨Y, 2, none⟩ = some (.bool t.sg) ∧ w6.drew.cell? ⟨Y, 3, none⟩ = some (.bool t.sc) ∧ w6.drew.cell? ⟨Y, 4, none⟩ = some (.pointer el) ∧ w6.drew.cell? ⟨Y, 5, none⟩ = some (.int .i64 t.len) ∧ w6.drew.cell? ⟨Y, 6, none⟩ = some (.int .i64 t.num) ∧ w6.drew.cell? ⟨Y, 7, none⟩ = some (.slice none 0 0) ∧ w6.drew.cell? ⟨Y, 8, none⟩ = some (.pointer none)) := Lib.hid SD.out
                  clear hown hgrow hat hlt9 hfar hown10
                  refine hK.out _ _ ?_ (fun hHeld2 => ?_)
                  · (first | (with_reducible exact SD.out) | (with_reducible exact SE.out))
                  clear hHeld hK K
                  have hHeld := hHeld2
                  clear hHeld2
                  (try simp only [Act.put, List.setIfInBounds_toArray, List.set_cons_zero, List.set_cons_succ])
                  refine takeD (i := 10) (d := 10) (v := ?_) rfl rfl (by kernel_rfl) (by kernel_rfl) (by kernel_rfl) (fun _ _ _ h => h) (Or.inl ⟨by rfl, ?_⟩) (by assumption) ?_
                  rotate_left
                  · intro w hSw
                    obtain ⟨a1, a2, b0, b1, b2, b3, b4, b5, b6, b7, b8⟩ := hSw
                    go_simp
                    (try with_reducible rfl)
                  (try simp only [Act.put, List.setIfInBounds_toArray, List.set_cons_zero, List.set_cons_succ])
                  refine wpAnyH_done (by kernel_rfl) ?_ _
                  clear hHeld
                  clear SD SE
                  go_wp2_with fail
                  go_roundw
                  case rel => exact ⟨k + 1, _, _, _, by go_num, by omega, HF6⟩
                  case measure => simp [intOf]; omega
            · obtain rfl : sn = k := by omega
              have hx0 : wr.cell? ⟨X, 0, none⟩ = some (.string nm) := by rw [HF.out.b.cell (by exact HXZ.out.1)]; exact HX0.out
              have HST := Lib.hid (one_step (nm := nm) ((HBN.out.below HBZ.out).below (HF.out.b.mono (Nat.le_refl _))) HF.out.o (by omega) HF.out.z HF.out.ok (fun i hi => (HF.out.e i hi).mono (fun b hb => hb.2.1)))
              clear x1
              go_wp2_with fail
              (with_reducible refine HST.out.mono ?_)
              rintro e w2 ⟨⟨r0, r1, rfl⟩, hsz2, hb2, n2, hn2⟩
              have HB2 := Lib.hid hb2
              have HN2 := Lib.hid hn2
              clear hsz2 hb2 hn2 hx0 HST
              go_wp2_with fail
              go_roundw
              case rel => exact ⟨i + 1, n2, by go_num, by omega, Lib.hid (HBR.out.trans ((HBZ.out.mono (Nat.le_of_lt HTL.out)).trans ((HF.out.b.mono (Nat.le_of_lt HXZ.out.2.2)).trans HB2.out))), HN2⟩
              case measure => simp [intOf]; omega
      · obtain rfl : len0 = i := by omega
        have q0 : wr.cell? ⟨w.heap.size, 0, none⟩ = some (.int .i64 kd) := by rw [HBR.out.cell (by exact HTB.out.1)]; exact HQ.out.1
        have q1 : wr.cell? ⟨w.heap.size, 1, none⟩ = some (.slice sa0 sl0 sc0) := by rw [HBR.out.cell (by exact HTB.out.1)]; exact HQ.out.2
        obtain ⟨T, hT1, hlay, htk⟩ := HBN.out.tabk
        have HTK := Lib.hid htk
        have HLAY := Lib.hid hlay
        have HTY := Lib.hid (type_ok kd sa0 sl0 sc0 hsl0 wr (HST0.out.below HBD0.out HBX.out) (fun h x hx => Nat.lt_of_lt_of_le (HBD0.out h x hx) HBX.out.size))
        subst hT1
        clear htk hlay
        go_wp2_with fail
        (with_reducible refine HTY.out.mono ?_)
        rintro e w2 ⟨t, el, ok, rfl, hel, hb2, hok⟩
        have HEL : Hid (ElW w2 t el) := Lib.hid (ElIn.of (fun b h1 h2 => h2) hel)
        have HOK := Lib.hid hok
        have HB2 := Lib.hid hb2
        clear hel hb2 hok q0 q1 HTY
        unfold tyV
        cases ok
        · go_wp2_with fail
          go_ret
          have hbb := HBX.out.trans (HB2.out.mono HBX.out.size)
          exact ⟨rfl, hbb.alloc hbb.size _⟩
        · go_upto_region 23 with fail
          obtain ⟨w3, hw3⟩ : ∃ w3, w3 = w2.alloc (.cells #[.int .i64 t.kind, .int .i64 t.size, .bool t.sg, .bool t.sc, .pointer el, .int .i64 t.len, .int .i64 t.num, .slice none 0 0, .pointer none] 57) := ⟨_, rfl⟩
          obtain ⟨D, hD⟩ : ∃ D, D = w2.heap.size := ⟨_, rfl⟩
          rw [← hw3, ← hD]
          have hb3 : Below w2.heap.size w2 w3 := by rw [hw3]; exact (Below.refl _ _).alloc (Nat.le_refl _) _
          have HB3 : Hid (Below wr.heap.size wr w3) := Lib.hid (HB2.out.trans (hb3.mono HB2.out.size))
          have HD9 : Hid (w3.cell? ⟨D, 0, none⟩ = some (.int .i64 t.kind) ∧ w3.cell? ⟨D, 1, none⟩ = some (.int .i64 t.size) ∧ w3.cell? ⟨D, 2, none⟩ = some (.bool t.sg) ∧ w3.cell? ⟨D, 3, none⟩ = some (.bool t.sc) ∧ w3.cell? ⟨D, 4, none⟩ = some (.pointer el) ∧ w3.cell? ⟨D, 5, none⟩ = some (.int .i64 t.len) ∧ w3.cell? ⟨D, 6, none⟩ = some (.int .i64 t.num) ∧ w3.cell? ⟨D, 7, none⟩ = some (.slice none 0 0) ∧ w3.cell? ⟨D, 8, none⟩ = some (.pointer none)) := Lib.hid (by rw [hw3, hD]; exact ⟨cell_new _ _ _ _ _ rfl, cell_new _ _ _ _ _ rfl, cell_new _ _ _ _ _ rfl, cell_new _ _ _ _ _ rfl, cell_new _ _ _ _ _ rfl, cell_new _ _ _ _ _ rfl, cell_new _ _ _ _ _ rfl, cell_new _ _ _ _ _ rfl, cell_new _ _ _ _ _ rfl⟩)
          have HDF : Hid (∀ j, w3.frozen? ⟨D, j, none⟩ = false) := Lib.hid (fun j => by rw [hw3, hD]; exact frozen_new _ _ _ _ _ rfl)
          have HEL3 := Lib.hid (HEL.out.below hb3)
          have HDW := Lib.hid (show wr.heap.size ≤ D from by rw [hD]; exact HB2.out.size)
          have HTK3 := Lib.hid (HTK.out.below HB3.out)
          have HBX3 : Hid (Below w.heap.size w w3) := Lib.hid (HBX.out.trans (HB3.out.mono HBX.out.size))
          have hsz := size_w HLAY.out t HOK.out el w3 HTK3.out HEL3.out
          unfold tyV at hsz
          have HSZ := Lib.hid hsz
          obtain ⟨d0, d1, d2, d3, d4, d5, d6, d7, d8⟩ := HD9.out
          obtain ⟨N, hN⟩ : ∃ N : Nat, sizeM T.n T.SZ t = N := ⟨(sizeM T.n T.SZ t).toNat, by have := sizeM_nonneg T.n T.SZ (LayT.sz HLAY.out) t HOK.out; omega⟩
          rw [hN] at HSZ
          have HN := Lib.hid hN
          clear hw3 hD hb3 hsz hN
          go_wp2_with fail
          (with_reducible refine HSZ.out.mono ?_)
          rintro e w4 ⟨rfl, hb4⟩
          have HB4 := Lib.hid hb4
          clear hb4 HSZ d0 d1 d2 d3 d4 d5 d6 d7 d8
          by_cases hbig : 100000 < N
          · have hbig2 : (100000 : Int) < N := by omega
            go_wp2_with fail
            go_ret
            exact ⟨rfl, HBX3.out.trans (HB4.out.mono HBX3.out.size)⟩
          · have hbig2 : ¬ (100000 : Int) < N := by omega
            go_upto_if 89 with fail
            have HD4 : Hid (w4.cell? ⟨D, 0, none⟩ = some (.int .i64 t.kind) ∧ w4.cell? ⟨D, 1, none⟩ = some (.int .i64 t.size) ∧ w4.cell? ⟨D, 2, none⟩ = some (.bool t.sg) ∧ w4.cell? ⟨D, 3, none⟩ = some (.bool t.sc) ∧ w4.cell? ⟨D, 4, none⟩ = some (.pointer el) ∧ w4.cell? ⟨D, 5, none⟩ = some (.int .i64 t.len) ∧ w4.cell? ⟨D, 6, none⟩ = some (.int .i64 t.num) ∧ w4.cell? ⟨D, 7, none⟩ = some (.slice none 0 0) ∧ w4.cell? ⟨D, 8, none⟩ = some (.pointer none)) := Lib.hid (by
              obtain ⟨d0, d1, d2, d3, d4, d5, d6, d7, d8⟩ := HD9.out
              exact ⟨by rw [HB4.out.cell (by exact lt_of_cellC d0)]; exact d0, by rw [HB4.out.cell (by exact lt_of_cellC d0)]; exact d1, by rw [HB4.out.cell (by exact lt_of_cellC d0)]; exact d2, by rw [HB4.out.cell (by exact lt_of_cellC d0)]; exact d3, by rw [HB4.out.cell (by exact lt_of_cellC d0)]; exact d4, by rw [HB4.out.cell (by exact lt_of_cellC d0)]; exact d5, by rw [HB4.out.cell (by exact lt_of_cellC d0)]; exact d6, by rw [HB4.out.cell (by exact lt_of_cellC d0)]; exact d7, by rw [HB4.out.cell (by exact lt_of_cellC d0)]; exact d8⟩)
            have HDL := Lib.hid (show D < w3.heap.size from by obtain ⟨d0, _⟩ := HD9.out; exact lt_of_cellC d0)
            have HDF4 : Hid (∀ j, w4.frozen? ⟨D, j, none⟩ = false) := Lib.hid (fun j => by rw [HB4.out.frozen (by exact HDL.out)]; exact HDF.out j)
            have HEL4 := Lib.hid (HEL3.out.below HB4.out)
            have HTK4 := Lib.hid (HTK3.out.below HB4.out)
            have HBX4 : Hid (Below w.heap.size w w4) := Lib.hid (HBX3.out.trans (HB4.out.mono HBX3.out.size))
            have HDL4 := Lib.hid (Nat.lt_of_lt_of_le HDL.out HB4.out.size)
            clear HD9 HDF HEL3 HTK3 HBX3 HB4 HB3 HEL HB2
            go_cut [15] (fun s15 wx => ∃ (Wx : World) (t' : Ty) (el' : Option Addr), Wx = wx ∧ s15 = .pointer (some ⟨D, 0, none⟩) ∧ Hid (Wx.cell? ⟨D, 0, none⟩ = some (.int .i64 t'.kind) ∧ Wx.cell? ⟨D, 1, none⟩ = some (.int .i64 t'.size) ∧ Wx.cell? ⟨D, 2, none⟩ = some (.bool t'.sg) ∧ Wx.cell? ⟨D, 3, none⟩ = some (.bool t'.sc) ∧ Wx.cell? ⟨D, 4, none⟩ = some (.pointer el') ∧ Wx.cell? ⟨D, 5, none⟩ = some (.int .i64 t'.len) ∧ Wx.cell? ⟨D, 6, none⟩ = some (.int .i64 t'.num) ∧ Wx.cell? ⟨D, 7, none⟩ = some (.slice none 0 0) ∧ Wx.cell? ⟨D, 8, none⟩ = some (.pointer none)) ∧ Hid (OkT t') ∧ Hid (sizeM T.n T.SZ t' = N) ∧ Hid (ElW Wx t' el') ∧ Hid (Turn D w4 Wx))
            case first =>
              obtain ⟨d0, d1, d2, d3, d4, d5, d6, d7, d8⟩ := HD4.out
              cases sec
              · go_wp2_with fail
                go_meet
                exact ⟨w4, t, el, rfl, rfl, HD4, HOK, HN, HEL4, Lib.hid (Turn.refl _ _)⟩
              · have hsec := secret_any t el w4 (ElIn.elAt HEL4.out)
                unfold tyV at hsec
                go_wp2_with fail
                (with_reducible refine hsec.mono ?_)
                rintro e w5 ⟨el', rfl, hel5, hb5⟩
                have HEL5 := Lib.hid hel5
                have HB5 := Lib.hid hb5
                have k0 : w5.cell? ⟨D, 0, none⟩ = some (.int .i64 t.kind) := by rw [hb5.cell (by exact HDL4.out)]; exact d0
                have k1 : w5.cell? ⟨D, 1, none⟩ = some (.int .i64 t.size) := by rw [hb5.cell (by exact HDL4.out)]; exact d1
                have k2 : w5.cell? ⟨D, 2, none⟩ = some (.bool t.sg) := by rw [hb5.cell (by exact HDL4.out)]; exact d2
                have k3 : w5.cell? ⟨D, 3, none⟩ = some (.bool t.sc) := by rw [hb5.cell (by exact HDL4.out)]; exact d3
                have k4 : w5.cell? ⟨D, 4, none⟩ = some (.pointer el) := by rw [hb5.cell (by exact HDL4.out)]; exact d4
                have k5 : w5.cell? ⟨D, 5, none⟩ = some (.int .i64 t.len) := by rw [hb5.cell (by exact HDL4.out)]; exact d5
                have k6 : w5.cell? ⟨D, 6, none⟩ = some (.int .i64 t.num) := by rw [hb5.cell (by exact HDL4.out)]; exact d6
                have k7 : w5.cell? ⟨D, 7, none⟩ = some (.slice none 0 0) := by rw [hb5.cell (by exact HDL4.out)]; exact d7
                have k8 : w5.cell? ⟨D, 8, none⟩ = some (.pointer none) := by rw [hb5.cell (by exact HDL4.out)]; exact d8
                have z : ∀ j, w5.frozen? ⟨D, j, none⟩ = false := fun j => by rw [hb5.frozen (by exact HDL4.out)]; exact HDF4.out j
                have z0 := z 0
                have z1 := z 1
                have z2 := z 2
                have z3 := z 3
                have z4 := z 4
                have z5 := z 5
                have z6 := z 6
                have z7 := z 7
                have z8 := z 8
                clear hel5 hb5 d0 d1 d2 d3 d4 d5 d6 d7 d8 z hsec
                unfold tyV
                go_wp2_with fail
                go_meet
                have ht := ((((((((Turn.set (w := w5) ⟨D, 0, none⟩ rfl (.int .i64 (secT t).kind)).trans (Turn.set ⟨D, 1, none⟩ rfl (.int .i64 (secT t).size))).trans (Turn.set ⟨D, 2, none⟩ rfl (.bool (secT t).sg))).trans (Turn.set ⟨D, 3, none⟩ rfl (.bool (secT t).sc))).trans (Turn.set ⟨D, 4, none⟩ rfl (.pointer el'))).trans (Turn.set ⟨D, 5, none⟩ rfl (.int .i64 (secT t).len))).trans (Turn.set ⟨D, 6, none⟩ rfl (.int .i64 (secT t).num))).trans (Turn.set ⟨D, 7, none⟩ rfl (.slice none 0 0))).trans (Turn.set ⟨D, 8, none⟩ rfl (.pointer none))
                refine ⟨_, secT t, el', rfl, rfl, Lib.hid ⟨?_, ?_, ?_, ?_, ?_, ?_, ?_, ?_, ?_⟩, Lib.hid (okT_sec t HOK.out), Lib.hid (by rw [sizeM_sec]; exact HN.out), Lib.hid (ElIn.keep (P := fun b => w4.heap.size ≤ b ∧ b < w5.heap.size) (fun b hb o => ht.cell (a := ⟨b, o, none⟩) hb.2 (by have := HDL4.out; show b ≠ D; omega)) (fun b hb => Nat.lt_of_lt_of_le hb.2 ht.size) (ElIn.of (fun b h1 h2 => ⟨h1, h2⟩) HEL5.out)), Lib.hid ((Turn.of HB5.out HDL4.out).trans ht)⟩
                all_goals simp [go_sem, k0, k1, k2, k3, k4, k5, k6, k7, k8]
            case rest =>
              obtain ⟨Wx, t', el', rfl, rfl, HDX, HOKX, HNX, HELX, HTX⟩ := hcut
              have HTKX := Lib.hid (HTK4.out.turn HTX.out HDW.out)
              have HBXX : Hid (Below w.heap.size w Wx) := Lib.hid (HBX4.out.trans (HTX.out.below (Nat.le_trans HBX.out.size HDW.out) HBX4.out.size))
              obtain ⟨d0, d1, d2, d3, d4, d5, d6, d7, d8⟩ := HDX.out
              by_cases hN0 : N = 0
              · have hz := HNX.out
                rw [hN0] at hz
                have LZ := Lib.hid (labels_zero T HLAY.out t' HOKX.out _ hz el' Wx HTKX.out HELX.out)
                have HLZ := LZ.out
                unfold tyV at HLZ
                go_wp2_with fail
                (with_reducible refine HLZ.mono ?_)
                rintro e w6 ⟨rfl, hb6⟩
                have HB6 := Lib.hid hb6
                clear HLZ LZ d0 d1 d2 d3 d4 d5 d6 d7 d8
                obtain ⟨d0, d1, d2, d3, d4, d5, d6, d7, d8⟩ : w6.cell? ⟨D, 0, none⟩ = some (.int .i64 t'.kind) ∧ w6.cell? ⟨D, 1, none⟩ = some (.int .i64 t'.size) ∧ w6.cell? ⟨D, 2, none⟩ = some (.bool t'.sg) ∧ w6.cell? ⟨D, 3, none⟩ = some (.bool t'.sc) ∧ w6.cell? ⟨D, 4, none⟩ = some (.pointer el') ∧ w6.cell? ⟨D, 5, none⟩ = some (.int .i64 t'.len) ∧ w6.cell? ⟨D, 6, none⟩ = some (.int .i64 t'.num) ∧ w6.cell? ⟨D, 7, none⟩ = some (.slice none 0 0) ∧ w6.cell? ⟨D, 8, none⟩ = some (.pointer none) := by
                  obtain ⟨d0, d1, d2, d3, d4, d5, d6, d7, d8⟩ := HDX.out
                  exact ⟨by rw [hb6.cell (by exact lt_of_cellC d0)]; exact d0, by rw [hb6.cell (by exact lt_of_cellC d0)]; exact d1, by rw [hb6.cell (by exact lt_of_cellC d0)]; exact d2, by rw [hb6.cell (by exact lt_of_cellC d0)]; exact d3, by rw [hb6.cell (by exact lt_of_cellC d0)]; exact d4, by rw [hb6.cell (by exact lt_of_cellC d0)]; exact d5, by rw [hb6.cell (by exact lt_of_cellC d0)]; exact d6, by rw [hb6.cell (by exact lt_of_cellC d0)]; exact d7, by rw [hb6.cell (by exact lt_of_cellC d0)]; exact d8⟩
                have hsz := size_w HLAY.out t' HOKX.out el' w6 (HTKX.out.below hb6) (HELX.out.below hb6)
                rw [hz] at hsz
                unfold tyV at hsz
                have HSZ := Lib.hid hsz
                clear hb6 hsz
                go_wp2_with fail
                (with_reducible refine HSZ.out.mono ?_)
                rintro e w7 ⟨rfl, hb7⟩
                have HB7 : Hid (Below Wx.heap.size Wx w7) := Lib.hid (HB6.out.trans (hb7.mono HB6.out.size))
                have hmk : ∀ w : World, (Instr.makeSlice 28 (.int .i64 0) (.int .i64 0)).run Try.prog w = .ok (.slice (some ⟨w.heap.size, 0, none⟩) 0 0) (w.alloc (.cells (madeCells #[.bool false] 0) 4)) := fun w => make_bools 0 (by omega) w
                clear hb7 HSZ d0 d1 d2 d3 d4 d5 d6 d7 d8
                go_upto_region 29 with fail
                obtain ⟨w8, hw8⟩ : ∃ w8, w8 = w7.alloc (.cells (madeCells #[.bool false] 0) 4) := ⟨_, rfl⟩
                obtain ⟨G, hG⟩ : ∃ G, G = w7.heap.size := ⟨_, rfl⟩
                rw [← hw8, ← hG]
                have hb8 : Below Wx.heap.size Wx w8 := by rw [hw8]; exact HB7.out.alloc HB7.out.size _
                have HB8 := Lib.hid hb8
                have hpz := paint_zero T HLAY.out t' HOKX.out hz _ (some ⟨G, 0, none⟩) 0 0 0 el' w8 (by omega) (HTKX.out.below hb8) (HELX.out.below hb8)
                rw [show ((0 : Nat) : Int) = 0 from rfl] at hpz
                unfold tyV at hpz
                have HPZ := Lib.hid hpz
                obtain ⟨d0, d1, d2, d3, d4, d5, d6, d7, d8⟩ : w8.cell? ⟨D, 0, none⟩ = some (.int .i64 t'.kind) ∧ w8.cell? ⟨D, 1, none⟩ = some (.int .i64 t'.size) ∧ w8.cell? ⟨D, 2, none⟩ = some (.bool t'.sg) ∧ w8.cell? ⟨D, 3, none⟩ = some (.bool t'.sc) ∧ w8.cell? ⟨D, 4, none⟩ = some (.pointer el') ∧ w8.cell? ⟨D, 5, none⟩ = some (.int .i64 t'.len) ∧ w8.cell? ⟨D, 6, none⟩ = some (.int .i64 t'.num) ∧ w8.cell? ⟨D, 7, none⟩ = some (.slice none 0 0) ∧ w8.cell? ⟨D, 8, none⟩ = some (.pointer none) := by
                  obtain ⟨d0, d1, d2, d3, d4, d5, d6, d7, d8⟩ := HDX.out
                  exact ⟨by rw [HB8.out.cell (by exact lt_of_cellC d0)]; exact d0, by rw [HB8.out.cell (by exact lt_of_cellC d0)]; exact d1, by rw [HB8.out.cell (by exact lt_of_cellC d0)]; exact d2, by rw [HB8.out.cell (by exact lt_of_cellC d0)]; exact d3, by rw [HB8.out.cell (by exact lt_of_cellC d0)]; exact d4, by rw [HB8.out.cell (by exact lt_of_cellC d0)]; exact d5, by rw [HB8.out.cell (by exact lt_of_cellC d0)]; exact d6, by rw [HB8.out.cell (by exact lt_of_cellC d0)]; exact d7, by rw [HB8.out.cell (by exact lt_of_cellC d0)]; exact d8⟩
                clear hw8 hG hb8 hpz hmk
                go_wp2_with fail
                (with_reducible refine HPZ.out.mono ?_)
                rintro e w9 ⟨rfl, hb9⟩
                have HB9 : Hid (Below w.heap.size w w9) := Lib.hid (HBXX.out.trans ((HB8.out.trans (hb9.mono HB8.out.size)).mono HBXX.out.size))
                clear hb9 HPZ d0 d1 d2 d3 d4 d5 d6 d7 d8
                go_wp2_with fail
                refine wp_loop_rounds 1 ?_; rw [rounds_succ]
                go_wp2_with fail
                go_ret
                exact ⟨rfl, HB9.out⟩
              · have hz := HNX.out
                have hNp : 0 < N := by omega
                obtain ⟨LF, hMk, hPt⟩ := label_any T HLAY.out T.n (Nat.le_refl _) t' HOKX.out (by omega)
                have HPT := Lib.hid hPt
                have hNI : (0 : Int) < N := by omega
                have HLZ := labels_pos T HLAY.out t' HOKX.out LF hMk N _ hz hNp (by omega) el' Wx HTKX.out HELX.out
                unfold tyV at HLZ
                clear hMk hPt
                go_wp2_with fail
                (with_reducible refine HLZ.mono ?_)
                rintro e w6 ⟨G1, rfl, hg1, hg2, hl6, hb6⟩
                have HB6 := Lib.hid hb6
                have HL6 := Lib.hid hl6
                have HG1 := Lib.hid (And.intro hg1 hg2)
                clear HLZ d0 d1 d2 d3 d4 d5 d6 d7 d8 hg1 hg2 hl6
                obtain ⟨d0, d1, d2, d3, d4, d5, d6, d7, d8⟩ : w6.cell? ⟨D, 0, none⟩ = some (.int .i64 t'.kind) ∧ w6.cell? ⟨D, 1, none⟩ = some (.int .i64 t'.size) ∧ w6.cell? ⟨D, 2, none⟩ = some (.bool t'.sg) ∧ w6.cell? ⟨D, 3, none⟩ = some (.bool t'.sc) ∧ w6.cell? ⟨D, 4, none⟩ = some (.pointer el') ∧ w6.cell? ⟨D, 5, none⟩ = some (.int .i64 t'.len) ∧ w6.cell? ⟨D, 6, none⟩ = some (.int .i64 t'.num) ∧ w6.cell? ⟨D, 7, none⟩ = some (.slice none 0 0) ∧ w6.cell? ⟨D, 8, none⟩ = some (.pointer none) := by
                  obtain ⟨d0, d1, d2, d3, d4, d5, d6, d7, d8⟩ := HDX.out
                  exact ⟨by rw [hb6.cell (by exact lt_of_cellC d0)]; exact d0, by rw [hb6.cell (by exact lt_of_cellC d0)]; exact d1, by rw [hb6.cell (by exact lt_of_cellC d0)]; exact d2, by rw [hb6.cell (by exact lt_of_cellC d0)]; exact d3, by rw [hb6.cell (by exact lt_of_cellC d0)]; exact d4, by rw [hb6.cell (by exact lt_of_cellC d0)]; exact d5, by rw [hb6.cell (by exact lt_of_cellC d0)]; exact d6, by rw [hb6.cell (by exact lt_of_cellC d0)]; exact d7, by rw [hb6.cell (by exact lt_of_cellC d0)]; exact d8⟩
                have hsz := size_w HLAY.out t' HOKX.out el' w6 (HTKX.out.below hb6) (HELX.out.below hb6)
                rw [hz] at hsz
                unfold tyV at hsz
                have HSZ := Lib.hid hsz
                clear hb6 hsz
                go_wp2_with fail
                (with_reducible refine HSZ.out.mono ?_)
                rintro e w7 ⟨rfl, hb7⟩
                have HB67 := Lib.hid hb7
                have HB7 : Hid (Below Wx.heap.size Wx w7) := Lib.hid (HB6.out.trans (hb7.mono HB6.out.size))
                have hmk := fun w => make_bools N (by omega) w
                clear hb7 HSZ d0 d1 d2 d3 d4 d5 d6 d7 d8
                go_upto_region 29 with fail
                obtain ⟨w8, hw8⟩ : ∃ w8, w8 = w7.alloc (.cells (madeCells #[.bool false] N) 4) := ⟨_, rfl⟩
                obtain ⟨G, hG⟩ : ∃ G, G = w7.heap.size := ⟨_, rfl⟩
                rw [← hw8, ← hG]
                have hb78 : Below w7.heap.size w7 w8 := by rw [hw8]; exact (Below.refl _ _).alloc (Nat.le_refl _) _
                have hb8 : Below Wx.heap.size Wx w8 := HB7.out.trans (hb78.mono HB7.out.size)
                have HB8 := Lib.hid hb8
                have hla : Labs w8 G 0 N (fun _ => false) := by rw [hG]; exact labs_new w7 w8 N hw8
                have hgl : G < w8.heap.size := by rw [hG, hw8]; simp
                have hfz : ∀ j, w8.frozen? ⟨G, j, none⟩ = false := fun j => by rw [hw8]; exact frozen_new _ _ _ _ _ hG
                have hGX : Wx.heap.size ≤ G := by rw [hG]; exact HB7.out.size
                have hpt := HPT.out N _ G 0 N N 0 el' w8 hz (by omega) (Nat.le_refl _) (by omega) (HTKX.out.below hb8) (Nat.le_trans HTKX.out.hl hGX) hgl (HELX.out.elG hb8 G hGX) (by rw [Nat.add_zero]; exact hla) hfz
                rw [show ((0 : Nat) : Int) = 0 from rfl, Nat.add_zero] at hpt
                unfold tyV at hpt
                have HPZ := Lib.hid hpt
                have HL8 : Hid (Labs w8 G1 0 N LF) := Lib.hid ((HL6.out.below HB67.out HG1.out.2).below hb78 (Nat.lt_of_lt_of_le HG1.out.2 HB67.out.size))
                have HGG := Lib.hid (show G1 < w8.heap.size ∧ G1 ≠ G ∧ w.heap.size ≤ G from by have h1 := HG1.out.2; have h2 := HB67.out.size; have h3 := hb78.size; have h4 := HBXX.out.size; omega)
                obtain ⟨d0, d1, d2, d3, d4, d5, d6, d7, d8⟩ : w8.cell? ⟨D, 0, none⟩ = some (.int .i64 t'.kind) ∧ w8.cell? ⟨D, 1, none⟩ = some (.int .i64 t'.size) ∧ w8.cell? ⟨D, 2, none⟩ = some (.bool t'.sg) ∧ w8.cell? ⟨D, 3, none⟩ = some (.bool t'.sc) ∧ w8.cell? ⟨D, 4, none⟩ = some (.pointer el') ∧ w8.cell? ⟨D, 5, none⟩ = some (.int .i64 t'.len) ∧ w8.cell? ⟨D, 6, none⟩ = some (.int .i64 t'.num) ∧ w8.cell? ⟨D, 7, none⟩ = some (.slice none 0 0) ∧ w8.cell? ⟨D, 8, none⟩ = some (.pointer none) := by
                  obtain ⟨d0, d1, d2, d3, d4, d5, d6, d7, d8⟩ := HDX.out
                  exact ⟨by rw [HB8.out.cell (by exact lt_of_cellC d0)]; exact d0, by rw [HB8.out.cell (by exact lt_of_cellC d0)]; exact d1, by rw [HB8.out.cell (by exact lt_of_cellC d0)]; exact d2, by rw [HB8.out.cell (by exact lt_of_cellC d0)]; exact d3, by rw [HB8.out.cell (by exact lt_of_cellC d0)]; exact d4, by rw [HB8.out.cell (by exact lt_of_cellC d0)]; exact d5, by rw [HB8.out.cell (by exact lt_of_cellC d0)]; exact d6, by rw [HB8.out.cell (by exact lt_of_cellC d0)]; exact d7, by rw [HB8.out.cell (by exact lt_of_cellC d0)]; exact d8⟩
                clear hw8 hG hb78 hb8 hpt hmk hla hgl hfz hGX
                go_wp2_with fail
                (with_reducible refine HPZ.out.mono ?_)
                rintro e w9 ⟨rfl, ht9, hl9, ho9⟩
                have HT9 := Lib.hid ht9
                have HL9 := Lib.hid hl9
                have HLG : Hid (Labs w9 G1 0 N LF) := Lib.hid (fun i hi' => by rw [HT9.out.cell (by exact HGG.out.1) (by exact HGG.out.2.1)]; exact HL8.out i hi')
                have hbw8 : Below w.heap.size w w8 := HBXX.out.trans (HB8.out.mono HBXX.out.size)
                have HB9 : Hid (Below w.heap.size w w9) := Lib.hid (hbw8.trans (HT9.out.below HGG.out.2.2 hbw8.size))
                clear ht9 hl9 ho9 HPZ d0 d1 d2 d3 d4 d5 d6 d7 d8 hbw8
                go_wp2_with fail
                go_loopw [105] (fun s105 wr => ∃ i : Nat, s105 = .int .i64 i ∧ i ≤ N ∧ Hid (Below w9.heap.size w9 wr)) (fun s105 _ => N - (intOf s105).toNat)
                case atStart => exact ⟨0, rfl, by omega, Lib.hid (Below.refl _ _)⟩
                case round =>
                  obtain ⟨i, rfl, hi3, HR⟩ := hrel
                  by_cases hlt3 : i < N
                  · have hil : (i : Int) < N := by omega
                    have l1 : wr.cell? ⟨G1, 0 + i, none⟩ = some (.bool (LF i)) := by rw [HR.out.cell (by exact lt_of_cellC (HLG.out i hlt3))]; exact HLG.out i hlt3
                    have l2 : wr.cell? ⟨G, 0 + i, none⟩ = some (.bool (LF i)) := by rw [HR.out.cell (by exact lt_of_cellC (HL9.out i hlt3))]; exact HL9.out i hlt3
                    rw [Nat.zero_add] at l1 l2
                    obtain ⟨y, hy⟩ : ∃ y, y = LF i := ⟨_, rfl⟩
                    rw [← hy] at l1 l2
                    clear hy
                    have SD : Hid (wr.cell? ⟨G1, i, none⟩ = some (.bool y) ∧ wr.cell? ⟨G, i, none⟩ = some (.bool y)) := Lib.hid ⟨l1, l2⟩
                    have SE : Hid (wr.drew.cell? ⟨G1, i, none⟩ = some (.bool y) ∧ wr.drew.cell? ⟨G, i, none⟩ = some (.bool y)) := Lib.hid ⟨l1, l2⟩
                    clear l1 l2
                    go_upto_region 33 with fail
                    refine wp_region_held_drew (S := (fun w' => w'.cell? ⟨G1, i, none⟩ = some (.bool y) ∧ w'.cell? ⟨G, i, none⟩ = some (.bool y))) (by kernel_rfl) (by (first | (with_reducible exact SD.out) | (with_reducible exact SE.out))) (fun hHeld => ?_)
                    refine takeD (i := 0) (d := 108) (v := ?_) rfl rfl (by kernel_rfl) (by kernel_rfl) (by kernel_rfl) (fun _ _ _ h => h) (Or.inl ⟨by rfl, ?_⟩) (by assumption) ?_
                    rotate_left
                    · intro w hSw
                      obtain ⟨l1, l2⟩ := hSw
                      go_simp
                      (try with_reducible rfl)
                    (try simp only [Act.put, List.setIfInBounds_toArray, List.set_cons_zero, List.set_cons_succ])
                    refine takeD (i := 1) (d := 109) (v := ?_) rfl rfl (by kernel_rfl) (by kernel_rfl) (by kernel_rfl) (fun _ _ _ h => h) (Or.inl ⟨by rfl, ?_⟩) (by assumption) ?_
                    rotate_left
                    · intro w hSw
                      obtain ⟨l1, l2⟩ := hSw
                      go_simp
                      (try with_reducible rfl)
                    (try simp only [Act.put, List.setIfInBounds_toArray, List.set_cons_zero, List.set_cons_succ])
                    refine takeD (i := 2) (d := 110) (v := ?_) rfl rfl (by kernel_rfl) (by kernel_rfl) (by kernel_rfl) (fun _ _ _ h => h) (Or.inl ⟨by rfl, ?_⟩) (by assumption) ?_
                    rotate_left
                    · intro w hSw
                      obtain ⟨l1, l2⟩ := hSw
                      go_simp
                      (try with_reducible rfl)
                    (try simp only [Act.put, List.setIfInBounds_toArray, List.set_cons_zero, List.set_cons_succ])
                    refine takeD (i := 3) (d := 111) (v := ?_) rfl rfl (by kernel_rfl) (by kernel_rfl) (by kernel_rfl) (fun _ _ _ h => h) (Or.inl ⟨by rfl, ?_⟩) (by assumption) ?_
                    rotate_left
                    · intro w hSw
                      obtain ⟨l1, l2⟩ := hSw
                      go_simp
                      (try with_reducible rfl)
                    (try simp only [Act.put, List.setIfInBounds_toArray, List.set_cons_zero, List.set_cons_succ])
                    refine takeD (i := 4) (d := 112) (v := ?_) rfl rfl (by kernel_rfl) (by kernel_rfl) (by kernel_rfl) (fun _ _ _ h => h) (Or.inl ⟨by rfl, ?_⟩) (by assumption) ?_
                    rotate_left
                    · intro w hSw
                      obtain ⟨l1, l2⟩ := hSw
                      go_simp
                      (try with_reducible rfl)
                    (try simp only [Act.put, List.setIfInBounds_toArray, List.set_cons_zero, List.set_cons_succ])
                    refine takeD (i := 5) (d := 113) (v := ?_) rfl rfl (by kernel_rfl) (by kernel_rfl) (by kernel_rfl) (fun _ _ _ h => h) (Or.inl ⟨by rfl, ?_⟩) (by assumption) ?_
                    rotate_left
                    · intro w hSw
                      obtain ⟨l1, l2⟩ := hSw
                      go_simp
                      (try with_reducible rfl)
                    (try simp only [Act.put, List.setIfInBounds_toArray, List.set_cons_zero, List.set_cons_succ])
                    refine takeD (i := 6) (d := 114) (v := ?_) rfl rfl (by kernel_rfl) (by kernel_rfl) (by kernel_rfl) (fun _ _ _ h => h) (Or.inl ⟨by rfl, ?_⟩) (by assumption) ?_
                    rotate_left
                    · intro w hSw
                      obtain ⟨l1, l2⟩ := hSw
                      go_simp
                      (try with_reducible rfl)
                    (try simp only [Act.put, List.setIfInBounds_toArray, List.set_cons_zero, List.set_cons_succ])
                    refine takeD (i := 7) (d := 115) (v := ?_) rfl rfl (by kernel_rfl) (by kernel_rfl) (by kernel_rfl) (fun _ _ _ h => h) (Or.inl ⟨by rfl, ?_⟩) (by assumption) ?_
                    rotate_left
                    · intro w hSw
                      obtain ⟨l1, l2⟩ := hSw
                      go_simp
                      (try with_reducible rfl)
                    (try simp only [Act.put, List.setIfInBounds_toArray, List.set_cons_zero, List.set_cons_succ])
                    refine takeD (i := 8) (d := 116) (v := ?_) rfl rfl (by kernel_rfl) (by kernel_rfl) (by kernel_rfl) (fun _ _ _ h => h) (Or.inl ⟨by rfl, ?_⟩) (by assumption) ?_
                    rotate_left
                    · intro w hSw
                      obtain ⟨l1, l2⟩ := hSw
                      go_simp
                      (try with_reducible rfl)
                    (try simp only [Act.put, List.setIfInBounds_toArray, List.set_cons_zero, List.set_cons_succ])
                    refine takeD (i := 9) (d := 117) (v := ?_) rfl rfl (by kernel_rfl) (by kernel_rfl) (by kernel_rfl) (fun _ _ _ h => h) (Or.inl ⟨by rfl, ?_⟩) (by assumption) ?_
                    rotate_left
                    · intro w hSw
                      obtain ⟨l1, l2⟩ := hSw
                      go_simp
                      (try with_reducible rfl)
                    (try simp only [Act.put, List.setIfInBounds_toArray, List.set_cons_zero, List.set_cons_succ])
                    refine takeD (i := 10) (d := 118) (v := ?_) rfl rfl (by kernel_rfl) (by kernel_rfl) (by kernel_rfl) (fun _ _ _ h => h) (Or.inl ⟨by rfl, ?_⟩) (by assumption) ?_
                    rotate_left
                    · intro w hSw
                      obtain ⟨l1, l2⟩ := hSw
                      go_simp
                      (try with_reducible rfl)
                    (try simp only [Act.put, List.setIfInBounds_toArray, List.set_cons_zero, List.set_cons_succ])
                    refine takeD (i := 11) (d := 119) (v := ?_) rfl rfl (by kernel_rfl) (by kernel_rfl) (by kernel_rfl) (fun _ _ _ h => h) (Or.inl ⟨by rfl, ?_⟩) (by assumption) ?_
                    rotate_left
                    · intro w hSw
                      obtain ⟨l1, l2⟩ := hSw
                      go_simp
                      (try with_reducible rfl)
                    (try simp only [Act.put, List.setIfInBounds_toArray, List.set_cons_zero, List.set_cons_succ])
                    refine takeD (i := 12) (d := 120) (v := ?_) rfl rfl (by kernel_rfl) (by kernel_rfl) (by kernel_rfl) (fun _ _ _ h => h) (Or.inl ⟨by rfl, ?_⟩) (by assumption) ?_
                    rotate_left
                    · intro w hSw
                      obtain ⟨l1, l2⟩ := hSw
                      go_simp
                      (try with_reducible rfl)
                    (try simp only [Act.put, List.setIfInBounds_toArray, List.set_cons_zero, List.set_cons_succ])
                    refine takeD (i := 13) (d := 121) (v := ?_) rfl rfl (by kernel_rfl) (by kernel_rfl) (by kernel_rfl) (fun _ _ _ h => h) (Or.inl ⟨by rfl, ?_⟩) (by assumption) ?_
                    rotate_left
                    · intro w hSw
                      obtain ⟨l1, l2⟩ := hSw
                      go_simp
                      (try with_reducible rfl)
                    (try simp only [Act.put, List.setIfInBounds_toArray, List.set_cons_zero, List.set_cons_succ])
                    refine takeD (i := 14) (d := 122) (v := ?_) rfl rfl (by kernel_rfl) (by kernel_rfl) (by kernel_rfl) (fun _ _ _ h => h) (Or.inl ⟨by rfl, ?_⟩) (by assumption) ?_
                    rotate_left
                    · intro w hSw
                      obtain ⟨l1, l2⟩ := hSw
                      go_simp
                      (try with_reducible rfl)
                    (try simp only [Act.put, List.setIfInBounds_toArray, List.set_cons_zero, List.set_cons_succ])
                    refine takeD (i := 15) (d := 123) (v := ?_) rfl rfl (by kernel_rfl) (by kernel_rfl) (by kernel_rfl) (fun _ _ _ h => h) (Or.inl ⟨by rfl, ?_⟩) (by assumption) ?_
                    rotate_left
                    · intro w hSw
                      obtain ⟨l1, l2⟩ := hSw
                      go_simp
                      (try with_reducible rfl)
                    (try simp only [Act.put, List.setIfInBounds_toArray, List.set_cons_zero, List.set_cons_succ])
                    refine wpAnyH_done (by kernel_rfl) ?_ _
                    clear hHeld
                    clear SD SE
                    go_wp2_with fail
                    go_roundw
                    case rel => exact ⟨i + 1, by go_num, by omega, Lib.hid HR.out.drew⟩
                    case measure => simp [intOf]; omega
                  · obtain rfl : N = i := by omega
                    go_wp2_with fail
                    go_ret
                    exact ⟨rfl, HB9.out.trans (HR.out.mono HB9.out.size)⟩
end Go.Proofs.Ytdkhanjfncbfnaa
