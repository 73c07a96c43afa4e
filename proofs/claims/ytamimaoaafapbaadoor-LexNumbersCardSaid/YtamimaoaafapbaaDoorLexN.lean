import Derived.Test.YtamimaoaafapbaaDoorLexU
import Derived.Test.YtamimaoaafapbaaDoorLexK
import Derived.RegionTactic
import Derived.LoopN
namespace Go.Proofs.YtamimaoaafapbaaDoor
open Go Go.RowKit

theorem u64_and15 (n : Nat) (hn : n < 18446744073709551616) : bits .and .u64 (n : Int) 15 = ((n % 16 : Nat) : Int) := by
  have h3 : (BitVec.ofInt 64 15).toNat = 2 ^ 4 - 1 := by decide
  have key : (BitVec.ofInt 64 n &&& BitVec.ofInt 64 15).toNat = ((n : Int) % ((2 ^ 64 : Nat) : Int)).toNat % 2 ^ 4 := by
    rw [BitVec.toNat_and, BitVec.toNat_ofInt, h3, Nat.and_two_pow_sub_one_eq_mod]
  show IntKind.u64.wrap ((BitVec.ofInt 64 n &&& BitVec.ofInt 64 15).toNat : Nat) = _
  rw [key, IntKind.wrap_u64]
  omega

theorem hexC_ok : ∀ (d : Nat) (h : d < 16), hexV ((ByteArray.mk #[48, 49, 50, 51, 52, 53, 54, 55, 56, 57, 97, 98, 99, 100, 101, 102])[d]'h) = d ∧ baseB 16 ((ByteArray.mk #[48, 49, 50, 51, 52, 53, 54, 55, 56, 57, 97, 98, 99, 100, 101, 102])[d]'h).toNat = true := by decide

set_option maxRecDepth 100000 in
set_option maxHeartbeats 4000000 in
theorem numbers0 (n : Nat) (hn : n < 18446744073709551616) (how : Int) (h3 : bits .and .i64 how 3 = 0) (h1 : bits .and .i64 how 1 = 0) (h2 : bits .and .i64 how 2 = 0) (w : World) (hg : G w) :
    Calls Tryd.prog 7 #[.int .u64 n, .int .i64 how] w fun e w' => e = .returned (.bool true) ∧ Below w.heap.size w w' := by
  have C1 := Lib.hid (fit_any w hg)
  have HN := Lib.hid hn
  have H3 := Lib.hid h3
  have H1 := Lib.hid h1
  have H2 := Lib.hid h2
  clear hn h1 h2 h3
  have hn : (n : Int) ≤ 18446744073709551615 := by have := HN.out; omega
  go_enter Tryd.func7, Tryd.ntmps7
  go_wp2_with fail
  refine C1.out.mono ?_
  rintro e w1 ⟨rfl, hb⟩
  have HB1 := Lib.hid hb
  clear hb
  go_wp2_with fail
  go_loopw [5, 7] (fun v5 v7 wr => ∃ (m : Nat) (ds : List UInt8), v5 = .string (B ds) ∧ v7 = .int .u64 m ∧ m ≤ n ∧ ds.length ≤ 19 ∧ Hid (Dig 10 n m ds) ∧ Hid (Below w.heap.size w wr)) (fun _ v7 _ => (intOf v7).toNat)
  case atStart => exact ⟨n, [], rfl, rfl, Nat.le_refl _, by simp, Lib.hid (Dig.start _ _), HB1⟩
  case round =>
    obtain ⟨m, ds, rfl, rfl, hm, hl, HD, HBW⟩ := hrel
    have hm2 : (m : Int) ≤ 18446744073709551615 := by omega
    obtain ⟨u, hu⟩ : ∃ u : UInt8, (48 : Int) + (m : Int) % 10 = (u.toNat : Int) := ⟨UInt8.ofNat (48 + m % 10), by simp; omega⟩
    have hcv := bytes1 wr u
    have hcat : B [u] ++ B ds = B (u :: ds) := by rw [B_append]; rfl
    have hs2 : (B [u]).size = 1 := B_size _
    have hs3 : (B ds).size = ds.length := B_size _
    have HDG := Lib.hid (show hexV u = m % 10 ∧ baseB 10 u.toNat = true from by
      have h1 : u.toNat = 48 + m % 10 := by omega
      exact ⟨by unfold hexV; rw [if_pos (by omega)]; omega, by simp [baseB, digB]; omega⟩)
    have HBA := Lib.hid (show Below w.heap.size w (wr.alloc (.cells #[.int .u8 u.toNat] 5)) from HBW.out.alloc HBW.out.size _)
    by_cases h0 : m < 10
    · have h00 : (m : Int) / 10 = 0 := by omega
      have HE := Lib.hid (HD.out.last u HDG.out.2 HDG.out.1 (by omega))
      have hl0 : (u :: ds).length ≤ 20 := by simp; omega
      have hne0 : (u :: ds) ≠ [] := by simp
      go_wp2_with fail
      have HSZ := Lib.hid hl0
      have HNE := Lib.hid hne0
      generalize (wr.alloc (.cells #[.int .u8 u.toNat] 5)) = wx at HBA ⊢
      generalize (u :: ds) = dec at HE HSZ HNE ⊢
      clear hcv hcat h00 hu hm hm2 h0 hl HD HBW hs2 hs3 hl0 hne0
      go_loopw [6, 7] (fun v6 v7 wr => ∃ (m : Nat) (ds : List UInt8), v6 = .string (B ds) ∧ v7 = .int .u64 m ∧ m ≤ n ∧ ds.length ≤ 19 ∧ Hid (Dig 16 n m ds) ∧ Hid (Below w.heap.size w wr)) (fun _ v7 _ => (intOf v7).toNat)
      case atStart => exact ⟨n, [], rfl, rfl, Nat.le_refl _, by simp, Lib.hid (Dig.start _ _), HBA⟩
      case round =>
        obtain ⟨m2, hx, rfl, rfl, hm, hl, HD, HBW⟩ := hrel
        have hm2 : (m2 : Int) ≤ 18446744073709551615 := by omega
        obtain ⟨d, hd, hd16⟩ : ∃ d : Nat, d = m2 % 16 ∧ d < 16 := ⟨_, rfl, by omega⟩
        have hand : bits .and .u64 (m2 : Int) 15 = (d : Int) := by rw [u64_and15 m2 (by have := HN.out; omega), hd]
        have hd0 : (0 : Int) ≤ (d : Int) := by omega
        have hd1 : (d : Int) < 16 := by omega
        have HD16 := Lib.hid hd
        clear hd
        obtain ⟨hT1, hT2⟩ := hexC_ok d hd16
        have HT := Lib.hid (And.intro hT1 hT2)
        clear hT1 hT2
        have hcv := bytes1 wr ((ByteArray.mk #[48, 49, 50, 51, 52, 53, 54, 55, 56, 57, 97, 98, 99, 100, 101, 102])[d]'hd16)
        have hs2 : (B [(ByteArray.mk #[48, 49, 50, 51, 52, 53, 54, 55, 56, 57, 97, 98, 99, 100, 101, 102])[d]'hd16]).size = 1 := B_size _
        have hs3 : (B hx).size = hx.length := B_size _
        by_cases h0 : m2 < 16
        · have h00 : (m2 : Int) / 16 = 0 := by omega
          have HE2 := Lib.hid (HD.out.last ((ByteArray.mk #[48, 49, 50, 51, 52, 53, 54, 55, 56, 57, 97, 98, 99, 100, 101, 102])[d]'hd16) HT.out.2 (by rw [HT.out.1, HD16.out]) (by omega))
          have hcat0 : B [(ByteArray.mk #[48, 49, 50, 51, 52, 53, 54, 55, 56, 57, 97, 98, 99, 100, 101, 102])[d]'hd16] ++ B hx = B ((ByteArray.mk #[48, 49, 50, 51, 52, 53, 54, 55, 56, 57, 97, 98, 99, 100, 101, 102])[d]'hd16 :: hx) := by rw [B_append]; rfl
          have hl0 : ((ByteArray.mk #[48, 49, 50, 51, 52, 53, 54, 55, 56, 57, 97, 98, 99, 100, 101, 102])[d]'hd16 :: hx).length ≤ 20 := by simp; omega
          have hne0 : ((ByteArray.mk #[48, 49, 50, 51, 52, 53, 54, 55, 56, 57, 97, 98, 99, 100, 101, 102])[d]'hd16 :: hx) ≠ [] := by simp
          obtain ⟨hexl, hhx⟩ : ∃ hexl, hexl = (ByteArray.mk #[48, 49, 50, 51, 52, 53, 54, 55, 56, 57, 97, 98, 99, 100, 101, 102])[d]'hd16 :: hx := ⟨_, rfl⟩
          rw [← hhx] at hcat0 HE2 hl0 hne0
          have HL2 := Lib.hid hl0
          have HNE2 := Lib.hid hne0
          clear hhx hne0
          have hsD : (B dec).size ≤ 20 := by rw [B_size]; exact HSZ.out
          have hsH : (B hexl).size ≤ 20 := by rw [B_size]; exact hl0
          obtain ⟨t1, ht1⟩ : ∃ t1, t1 = dec ++ [] := ⟨_, rfl⟩
          have hc1 : B dec ++ ⟨#[]⟩ = B t1 := by rw [ht1, ← B_append]; rfl
          have hz1 : (B t1).size ≤ 22 := by rw [B_size, ht1, List.length_append, ← B_size dec]; simp; omega
          obtain ⟨t2, ht2⟩ : ∃ t2, t2 = t1 ++ [59, 48, 120] := ⟨_, rfl⟩
          have hc2 : B t1 ++ ⟨#[59, 48, 120]⟩ = B t2 := by rw [ht2, ← B_append]; rfl
          have hz2 : (B t2).size ≤ 25 := by rw [B_size, ht2, List.length_append, ← B_size t1]; simp; omega
          obtain ⟨t3, ht3⟩ : ∃ t3, t3 = t2 ++ hexl := ⟨_, rfl⟩
          have hc3 : B t2 ++ B hexl = B t3 := by rw [ht3, ← B_append]
          have hz3 : (B t3).size ≤ 45 := by rw [B_size, ht3, List.length_append, ← B_size t2, ← B_size hexl]; omega
          obtain ⟨t4, ht4⟩ : ∃ t4, t4 = t3 ++ [] := ⟨_, rfl⟩
          have hc4 : B t3 ++ ⟨#[]⟩ = B t4 := by rw [ht4, ← B_append]; rfl
          have hz4 : (B t4).size ≤ 47 := by rw [B_size, ht4, List.length_append, ← B_size t3]; simp; omega
          have HSC := Lib.hid (show ∃ a b c, scanM t4 = _ from by
            have h := numbers_scan dec hexl false false n HN.out HE.out.1 HE2.out.1 HNE.out HNE2.out HE.out.2 HE2.out.2 (by
              have hz := hz4
              rw [B_size, ht4, ht3, ht2, ht1] at hz
              simp [tailOf] at hz ⊢; omega)
            rw [show dec ++ (tailOf false false ++ (59 :: ([48, 120] ++ (hexl ++ (tailOf false false ++ []))))) = t4 from by rw [ht4, ht3, ht2, ht1]; simp [tailOf]] at h
            exact h)
          have CS := Lib.hid (fun w hg => scan_any (B t4) (by omega) w hg)
          have h3 := H3.out
          clear ht1 ht2 ht3 ht4 HE HE2 HD HD16 HT
          go_wp2_with fail
          clear hc1 hc2 hc3 hc4 hz1 hz2 hz3 hcv hcat0 hand h3
          refine (CS.out _ ?cg).mono ?_
          case cg =>
            refine hg.below ?_
            have hbw := HBW.out
            ((repeat (first | (with_reducible exact hbw) | (with_reducible apply Below.alloc))) <;> first | omega | exact hbw.size | (simp; have := hbw.size; omega))
          rintro e w2 ⟨hr, hb3⟩
          obtain ⟨a, b, c, hsc⟩ := HSC.out
          rw [B_list, hsc] at hr
          obtain ⟨v, rfl, hown⟩ := hr
          obtain ⟨g, cap, rfl, hbg, hcap, hm, hc⟩ := own_cells hown (by simp)
          have c0 : w2.cell? ⟨g, 0, none⟩ = some (.int .i64 3) := hc 0 (by show 0 < 4 * 6; omega)
          obtain ⟨s1, c1⟩ : ∃ x, w2.cell? ⟨g, 1, none⟩ = some (.string x) := ⟨_, hc 1 (by show 1 < 4 * 6; omega)⟩
          obtain ⟨y1, c2⟩ : ∃ x : Int, w2.cell? ⟨g, 2, none⟩ = some (.int .i64 x) := ⟨_, hc 2 (by show 2 < 4 * 6; omega)⟩
          have c3 : w2.cell? ⟨g, 3, none⟩ = some (.int .u64 n) := hc 3 (by show 3 < 4 * 6; omega)
          have c4 : w2.cell? ⟨g, 4, none⟩ = some (.bool false) := hc 4 (by show 4 < 4 * 6; omega)
          have c5 : w2.cell? ⟨g, 5, none⟩ = some (.bool false) := hc 5 (by show 5 < 4 * 6; omega)
          have c12 : w2.cell? ⟨g, 12, none⟩ = some (.int .i64 3) := hc 12 (by show 12 < 4 * 6; omega)
          obtain ⟨s2, c13⟩ : ∃ x, w2.cell? ⟨g, 13, none⟩ = some (.string x) := ⟨_, hc 13 (by show 13 < 4 * 6; omega)⟩
          obtain ⟨y2, c14⟩ : ∃ x : Int, w2.cell? ⟨g, 14, none⟩ = some (.int .i64 x) := ⟨_, hc 14 (by show 14 < 4 * 6; omega)⟩
          have c15 : w2.cell? ⟨g, 15, none⟩ = some (.int .u64 n) := hc 15 (by show 15 < 4 * 6; omega)
          have c16 : w2.cell? ⟨g, 16, none⟩ = some (.bool false) := hc 16 (by show 16 < 4 * 6; omega)
          have c17 : w2.cell? ⟨g, 17, none⟩ = some (.bool false) := hc 17 (by show 17 < 4 * 6; omega)
          have hlt2 := World.block_lt_of_cell? w2 _ c0
          have HBB : Hid (Below w.heap.size w w2) := Lib.hid (by
            refine Below.trans ?_ (hb3.mono ?_)
            · have hbw := HBW.out
              ((repeat (first | (with_reducible exact hbw) | (with_reducible apply Below.alloc))) <;> first | omega | exact hbw.size | (simp; have := hbw.size; omega))
            · have := HBW.out.size
              simp; omega)
          have h1 := H1.out
          have h2 := H2.out
          clear hown hc hb3
          go_wp2_with fail
          go_region
          go_wp2_with fail
          refine wp_loop_rounds 3 ?_
          rw [rounds_succ]
          go_wp2_with fail
          rw [rounds_succ]
          go_wp2_with fail
          rw [rounds_succ]
          go_wp2_with fail
          go_ret
          refine ⟨rfl, ?_⟩
          have hbb := HBB.out
          have hbz := hbb.size
          ((repeat (first | (with_reducible exact hbb) | (with_reducible apply Below.setCell) | (with_reducible apply Below.drew) | (with_reducible apply Below.alloc))) <;> first | omega | (simp; omega))
        · have hcat0 : B [(ByteArray.mk #[48, 49, 50, 51, 52, 53, 54, 55, 56, 57, 97, 98, 99, 100, 101, 102])[d]'hd16] ++ B hx = B ((ByteArray.mk #[48, 49, 50, 51, 52, 53, 54, 55, 56, 57, 97, 98, 99, 100, 101, 102])[d]'hd16 :: hx) := by rw [B_append]; rfl
          have HR := Lib.hid (HD.out.step (b := 16) ((ByteArray.mk #[48, 49, 50, 51, 52, 53, 54, 55, 56, 57, 97, 98, 99, 100, 101, 102])[d]'hd16) HT.out.2 (by rw [HT.out.1, HD16.out]) (by omega))
          have HRL := Lib.hid (HR.out.len (by omega) HN.out)
          have HBA := Lib.hid (show Below w.heap.size w (wr.alloc (.cells #[.int .u8 ((ByteArray.mk #[48, 49, 50, 51, 52, 53, 54, 55, 56, 57, 97, 98, 99, 100, 101, 102])[d]'hd16).toNat] 5)) from HBW.out.alloc HBW.out.size _)
          have hne : ((m2 : Int) / 16 == 0) = false := by simp; omega
          go_wp2_with fail
          go_roundw
          case rel => exact ⟨m2 / 16, _, rfl, by go_num, by omega, HRL.out, HR, HBA⟩
          case measure => simp [intOf]; omega
    · have HR := Lib.hid (HD.out.step (b := 10) u HDG.out.2 HDG.out.1 (by omega))
      have HRL := Lib.hid (HR.out.len (by omega) HN.out)
      have hne : ((m : Int) / 10 == 0) = false := by simp; omega
      go_wp2_with fail
      go_roundw
      case rel => exact ⟨m / 10, _, rfl, by go_num, by omega, HRL.out, HR, HBA⟩
      case measure => simp [intOf]; omega

set_option maxRecDepth 100000 in
set_option maxHeartbeats 4000000 in
theorem numbers1 (n : Nat) (hn : n < 18446744073709551616) (how : Int) (h3 : bits .and .i64 how 3 = 1) (h1 : bits .and .i64 how 1 = 1) (h2 : bits .and .i64 how 2 = 0) (w : World) (hg : G w) :
    Calls Tryd.prog 7 #[.int .u64 n, .int .i64 how] w fun e w' => e = .returned (.bool true) ∧ Below w.heap.size w w' := by
  have C1 := Lib.hid (fit_any w hg)
  have HN := Lib.hid hn
  have H3 := Lib.hid h3
  have H1 := Lib.hid h1
  have H2 := Lib.hid h2
  clear hn h1 h2 h3
  have hn : (n : Int) ≤ 18446744073709551615 := by have := HN.out; omega
  go_enter Tryd.func7, Tryd.ntmps7
  go_wp2_with fail
  refine C1.out.mono ?_
  rintro e w1 ⟨rfl, hb⟩
  have HB1 := Lib.hid hb
  clear hb
  go_wp2_with fail
  go_loopw [5, 7] (fun v5 v7 wr => ∃ (m : Nat) (ds : List UInt8), v5 = .string (B ds) ∧ v7 = .int .u64 m ∧ m ≤ n ∧ ds.length ≤ 19 ∧ Hid (Dig 10 n m ds) ∧ Hid (Below w.heap.size w wr)) (fun _ v7 _ => (intOf v7).toNat)
  case atStart => exact ⟨n, [], rfl, rfl, Nat.le_refl _, by simp, Lib.hid (Dig.start _ _), HB1⟩
  case round =>
    obtain ⟨m, ds, rfl, rfl, hm, hl, HD, HBW⟩ := hrel
    have hm2 : (m : Int) ≤ 18446744073709551615 := by omega
    obtain ⟨u, hu⟩ : ∃ u : UInt8, (48 : Int) + (m : Int) % 10 = (u.toNat : Int) := ⟨UInt8.ofNat (48 + m % 10), by simp; omega⟩
    have hcv := bytes1 wr u
    have hcat : B [u] ++ B ds = B (u :: ds) := by rw [B_append]; rfl
    have hs2 : (B [u]).size = 1 := B_size _
    have hs3 : (B ds).size = ds.length := B_size _
    have HDG := Lib.hid (show hexV u = m % 10 ∧ baseB 10 u.toNat = true from by
      have h1 : u.toNat = 48 + m % 10 := by omega
      exact ⟨by unfold hexV; rw [if_pos (by omega)]; omega, by simp [baseB, digB]; omega⟩)
    have HBA := Lib.hid (show Below w.heap.size w (wr.alloc (.cells #[.int .u8 u.toNat] 5)) from HBW.out.alloc HBW.out.size _)
    by_cases h0 : m < 10
    · have h00 : (m : Int) / 10 = 0 := by omega
      have HE := Lib.hid (HD.out.last u HDG.out.2 HDG.out.1 (by omega))
      have hl0 : (u :: ds).length ≤ 20 := by simp; omega
      have hne0 : (u :: ds) ≠ [] := by simp
      go_wp2_with fail
      have HSZ := Lib.hid hl0
      have HNE := Lib.hid hne0
      generalize (wr.alloc (.cells #[.int .u8 u.toNat] 5)) = wx at HBA ⊢
      generalize (u :: ds) = dec at HE HSZ HNE ⊢
      clear hcv hcat h00 hu hm hm2 h0 hl HD HBW hs2 hs3 hl0 hne0
      go_loopw [6, 7] (fun v6 v7 wr => ∃ (m : Nat) (ds : List UInt8), v6 = .string (B ds) ∧ v7 = .int .u64 m ∧ m ≤ n ∧ ds.length ≤ 19 ∧ Hid (Dig 16 n m ds) ∧ Hid (Below w.heap.size w wr)) (fun _ v7 _ => (intOf v7).toNat)
      case atStart => exact ⟨n, [], rfl, rfl, Nat.le_refl _, by simp, Lib.hid (Dig.start _ _), HBA⟩
      case round =>
        obtain ⟨m2, hx, rfl, rfl, hm, hl, HD, HBW⟩ := hrel
        have hm2 : (m2 : Int) ≤ 18446744073709551615 := by omega
        obtain ⟨d, hd, hd16⟩ : ∃ d : Nat, d = m2 % 16 ∧ d < 16 := ⟨_, rfl, by omega⟩
        have hand : bits .and .u64 (m2 : Int) 15 = (d : Int) := by rw [u64_and15 m2 (by have := HN.out; omega), hd]
        have hd0 : (0 : Int) ≤ (d : Int) := by omega
        have hd1 : (d : Int) < 16 := by omega
        have HD16 := Lib.hid hd
        clear hd
        obtain ⟨hT1, hT2⟩ := hexC_ok d hd16
        have HT := Lib.hid (And.intro hT1 hT2)
        clear hT1 hT2
        have hcv := bytes1 wr ((ByteArray.mk #[48, 49, 50, 51, 52, 53, 54, 55, 56, 57, 97, 98, 99, 100, 101, 102])[d]'hd16)
        have hs2 : (B [(ByteArray.mk #[48, 49, 50, 51, 52, 53, 54, 55, 56, 57, 97, 98, 99, 100, 101, 102])[d]'hd16]).size = 1 := B_size _
        have hs3 : (B hx).size = hx.length := B_size _
        by_cases h0 : m2 < 16
        · have h00 : (m2 : Int) / 16 = 0 := by omega
          have HE2 := Lib.hid (HD.out.last ((ByteArray.mk #[48, 49, 50, 51, 52, 53, 54, 55, 56, 57, 97, 98, 99, 100, 101, 102])[d]'hd16) HT.out.2 (by rw [HT.out.1, HD16.out]) (by omega))
          have hcat0 : B [(ByteArray.mk #[48, 49, 50, 51, 52, 53, 54, 55, 56, 57, 97, 98, 99, 100, 101, 102])[d]'hd16] ++ B hx = B ((ByteArray.mk #[48, 49, 50, 51, 52, 53, 54, 55, 56, 57, 97, 98, 99, 100, 101, 102])[d]'hd16 :: hx) := by rw [B_append]; rfl
          have hl0 : ((ByteArray.mk #[48, 49, 50, 51, 52, 53, 54, 55, 56, 57, 97, 98, 99, 100, 101, 102])[d]'hd16 :: hx).length ≤ 20 := by simp; omega
          have hne0 : ((ByteArray.mk #[48, 49, 50, 51, 52, 53, 54, 55, 56, 57, 97, 98, 99, 100, 101, 102])[d]'hd16 :: hx) ≠ [] := by simp
          obtain ⟨hexl, hhx⟩ : ∃ hexl, hexl = (ByteArray.mk #[48, 49, 50, 51, 52, 53, 54, 55, 56, 57, 97, 98, 99, 100, 101, 102])[d]'hd16 :: hx := ⟨_, rfl⟩
          rw [← hhx] at hcat0 HE2 hl0 hne0
          have HL2 := Lib.hid hl0
          have HNE2 := Lib.hid hne0
          clear hhx hne0
          have hsD : (B dec).size ≤ 20 := by rw [B_size]; exact HSZ.out
          have hsH : (B hexl).size ≤ 20 := by rw [B_size]; exact hl0
          obtain ⟨t1, ht1⟩ : ∃ t1, t1 = dec ++ [117] := ⟨_, rfl⟩
          have hc1 : B dec ++ ⟨#[117]⟩ = B t1 := by rw [ht1, ← B_append]; rfl
          have hz1 : (B t1).size ≤ 22 := by rw [B_size, ht1, List.length_append, ← B_size dec]; simp; omega
          obtain ⟨t2, ht2⟩ : ∃ t2, t2 = t1 ++ [59, 48, 120] := ⟨_, rfl⟩
          have hc2 : B t1 ++ ⟨#[59, 48, 120]⟩ = B t2 := by rw [ht2, ← B_append]; rfl
          have hz2 : (B t2).size ≤ 25 := by rw [B_size, ht2, List.length_append, ← B_size t1]; simp; omega
          obtain ⟨t3, ht3⟩ : ∃ t3, t3 = t2 ++ hexl := ⟨_, rfl⟩
          have hc3 : B t2 ++ B hexl = B t3 := by rw [ht3, ← B_append]
          have hz3 : (B t3).size ≤ 45 := by rw [B_size, ht3, List.length_append, ← B_size t2, ← B_size hexl]; omega
          obtain ⟨t4, ht4⟩ : ∃ t4, t4 = t3 ++ [117] := ⟨_, rfl⟩
          have hc4 : B t3 ++ ⟨#[117]⟩ = B t4 := by rw [ht4, ← B_append]; rfl
          have hz4 : (B t4).size ≤ 47 := by rw [B_size, ht4, List.length_append, ← B_size t3]; simp; omega
          have HSC := Lib.hid (show ∃ a b c, scanM t4 = _ from by
            have h := numbers_scan dec hexl true false n HN.out HE.out.1 HE2.out.1 HNE.out HNE2.out HE.out.2 HE2.out.2 (by
              have hz := hz4
              rw [B_size, ht4, ht3, ht2, ht1] at hz
              simp [tailOf] at hz ⊢; omega)
            rw [show dec ++ (tailOf true false ++ (59 :: ([48, 120] ++ (hexl ++ (tailOf true false ++ []))))) = t4 from by rw [ht4, ht3, ht2, ht1]; simp [tailOf]] at h
            exact h)
          have CS := Lib.hid (fun w hg => scan_any (B t4) (by omega) w hg)
          have h3 := H3.out
          clear ht1 ht2 ht3 ht4 HE HE2 HD HD16 HT
          go_wp2_with fail
          clear hc1 hc2 hc3 hc4 hz1 hz2 hz3 hcv hcat0 hand h3
          refine (CS.out _ ?cg).mono ?_
          case cg =>
            refine hg.below ?_
            have hbw := HBW.out
            ((repeat (first | (with_reducible exact hbw) | (with_reducible apply Below.alloc))) <;> first | omega | exact hbw.size | (simp; have := hbw.size; omega))
          rintro e w2 ⟨hr, hb3⟩
          obtain ⟨a, b, c, hsc⟩ := HSC.out
          rw [B_list, hsc] at hr
          obtain ⟨v, rfl, hown⟩ := hr
          obtain ⟨g, cap, rfl, hbg, hcap, hm, hc⟩ := own_cells hown (by simp)
          have c0 : w2.cell? ⟨g, 0, none⟩ = some (.int .i64 3) := hc 0 (by show 0 < 4 * 6; omega)
          obtain ⟨s1, c1⟩ : ∃ x, w2.cell? ⟨g, 1, none⟩ = some (.string x) := ⟨_, hc 1 (by show 1 < 4 * 6; omega)⟩
          obtain ⟨y1, c2⟩ : ∃ x : Int, w2.cell? ⟨g, 2, none⟩ = some (.int .i64 x) := ⟨_, hc 2 (by show 2 < 4 * 6; omega)⟩
          have c3 : w2.cell? ⟨g, 3, none⟩ = some (.int .u64 n) := hc 3 (by show 3 < 4 * 6; omega)
          have c4 : w2.cell? ⟨g, 4, none⟩ = some (.bool true) := hc 4 (by show 4 < 4 * 6; omega)
          have c5 : w2.cell? ⟨g, 5, none⟩ = some (.bool false) := hc 5 (by show 5 < 4 * 6; omega)
          have c12 : w2.cell? ⟨g, 12, none⟩ = some (.int .i64 3) := hc 12 (by show 12 < 4 * 6; omega)
          obtain ⟨s2, c13⟩ : ∃ x, w2.cell? ⟨g, 13, none⟩ = some (.string x) := ⟨_, hc 13 (by show 13 < 4 * 6; omega)⟩
          obtain ⟨y2, c14⟩ : ∃ x : Int, w2.cell? ⟨g, 14, none⟩ = some (.int .i64 x) := ⟨_, hc 14 (by show 14 < 4 * 6; omega)⟩
          have c15 : w2.cell? ⟨g, 15, none⟩ = some (.int .u64 n) := hc 15 (by show 15 < 4 * 6; omega)
          have c16 : w2.cell? ⟨g, 16, none⟩ = some (.bool true) := hc 16 (by show 16 < 4 * 6; omega)
          have c17 : w2.cell? ⟨g, 17, none⟩ = some (.bool false) := hc 17 (by show 17 < 4 * 6; omega)
          have hlt2 := World.block_lt_of_cell? w2 _ c0
          have HBB : Hid (Below w.heap.size w w2) := Lib.hid (by
            refine Below.trans ?_ (hb3.mono ?_)
            · have hbw := HBW.out
              ((repeat (first | (with_reducible exact hbw) | (with_reducible apply Below.alloc))) <;> first | omega | exact hbw.size | (simp; have := hbw.size; omega))
            · have := HBW.out.size
              simp; omega)
          have h1 := H1.out
          have h2 := H2.out
          clear hown hc hb3
          go_wp2_with fail
          go_region
          go_wp2_with fail
          refine wp_loop_rounds 3 ?_
          rw [rounds_succ]
          go_wp2_with fail
          rw [rounds_succ]
          go_wp2_with fail
          rw [rounds_succ]
          go_wp2_with fail
          go_ret
          refine ⟨rfl, ?_⟩
          have hbb := HBB.out
          have hbz := hbb.size
          ((repeat (first | (with_reducible exact hbb) | (with_reducible apply Below.setCell) | (with_reducible apply Below.drew) | (with_reducible apply Below.alloc))) <;> first | omega | (simp; omega))
        · have hcat0 : B [(ByteArray.mk #[48, 49, 50, 51, 52, 53, 54, 55, 56, 57, 97, 98, 99, 100, 101, 102])[d]'hd16] ++ B hx = B ((ByteArray.mk #[48, 49, 50, 51, 52, 53, 54, 55, 56, 57, 97, 98, 99, 100, 101, 102])[d]'hd16 :: hx) := by rw [B_append]; rfl
          have HR := Lib.hid (HD.out.step (b := 16) ((ByteArray.mk #[48, 49, 50, 51, 52, 53, 54, 55, 56, 57, 97, 98, 99, 100, 101, 102])[d]'hd16) HT.out.2 (by rw [HT.out.1, HD16.out]) (by omega))
          have HRL := Lib.hid (HR.out.len (by omega) HN.out)
          have HBA := Lib.hid (show Below w.heap.size w (wr.alloc (.cells #[.int .u8 ((ByteArray.mk #[48, 49, 50, 51, 52, 53, 54, 55, 56, 57, 97, 98, 99, 100, 101, 102])[d]'hd16).toNat] 5)) from HBW.out.alloc HBW.out.size _)
          have hne : ((m2 : Int) / 16 == 0) = false := by simp; omega
          go_wp2_with fail
          go_roundw
          case rel => exact ⟨m2 / 16, _, rfl, by go_num, by omega, HRL.out, HR, HBA⟩
          case measure => simp [intOf]; omega
    · have HR := Lib.hid (HD.out.step (b := 10) u HDG.out.2 HDG.out.1 (by omega))
      have HRL := Lib.hid (HR.out.len (by omega) HN.out)
      have hne : ((m : Int) / 10 == 0) = false := by simp; omega
      go_wp2_with fail
      go_roundw
      case rel => exact ⟨m / 10, _, rfl, by go_num, by omega, HRL.out, HR, HBA⟩
      case measure => simp [intOf]; omega

set_option maxRecDepth 100000 in
set_option maxHeartbeats 4000000 in
theorem numbers2 (n : Nat) (hn : n < 18446744073709551616) (how : Int) (h3 : bits .and .i64 how 3 = 2) (h1 : bits .and .i64 how 1 = 0) (h2 : bits .and .i64 how 2 = 2) (w : World) (hg : G w) :
    Calls Tryd.prog 7 #[.int .u64 n, .int .i64 how] w fun e w' => e = .returned (.bool true) ∧ Below w.heap.size w w' := by
  have C1 := Lib.hid (fit_any w hg)
  have HN := Lib.hid hn
  have H3 := Lib.hid h3
  have H1 := Lib.hid h1
  have H2 := Lib.hid h2
  clear hn h1 h2 h3
  have hn : (n : Int) ≤ 18446744073709551615 := by have := HN.out; omega
  go_enter Tryd.func7, Tryd.ntmps7
  go_wp2_with fail
  refine C1.out.mono ?_
  rintro e w1 ⟨rfl, hb⟩
  have HB1 := Lib.hid hb
  clear hb
  go_wp2_with fail
  go_loopw [5, 7] (fun v5 v7 wr => ∃ (m : Nat) (ds : List UInt8), v5 = .string (B ds) ∧ v7 = .int .u64 m ∧ m ≤ n ∧ ds.length ≤ 19 ∧ Hid (Dig 10 n m ds) ∧ Hid (Below w.heap.size w wr)) (fun _ v7 _ => (intOf v7).toNat)
  case atStart => exact ⟨n, [], rfl, rfl, Nat.le_refl _, by simp, Lib.hid (Dig.start _ _), HB1⟩
  case round =>
    obtain ⟨m, ds, rfl, rfl, hm, hl, HD, HBW⟩ := hrel
    have hm2 : (m : Int) ≤ 18446744073709551615 := by omega
    obtain ⟨u, hu⟩ : ∃ u : UInt8, (48 : Int) + (m : Int) % 10 = (u.toNat : Int) := ⟨UInt8.ofNat (48 + m % 10), by simp; omega⟩
    have hcv := bytes1 wr u
    have hcat : B [u] ++ B ds = B (u :: ds) := by rw [B_append]; rfl
    have hs2 : (B [u]).size = 1 := B_size _
    have hs3 : (B ds).size = ds.length := B_size _
    have HDG := Lib.hid (show hexV u = m % 10 ∧ baseB 10 u.toNat = true from by
      have h1 : u.toNat = 48 + m % 10 := by omega
      exact ⟨by unfold hexV; rw [if_pos (by omega)]; omega, by simp [baseB, digB]; omega⟩)
    have HBA := Lib.hid (show Below w.heap.size w (wr.alloc (.cells #[.int .u8 u.toNat] 5)) from HBW.out.alloc HBW.out.size _)
    by_cases h0 : m < 10
    · have h00 : (m : Int) / 10 = 0 := by omega
      have HE := Lib.hid (HD.out.last u HDG.out.2 HDG.out.1 (by omega))
      have hl0 : (u :: ds).length ≤ 20 := by simp; omega
      have hne0 : (u :: ds) ≠ [] := by simp
      go_wp2_with fail
      have HSZ := Lib.hid hl0
      have HNE := Lib.hid hne0
      generalize (wr.alloc (.cells #[.int .u8 u.toNat] 5)) = wx at HBA ⊢
      generalize (u :: ds) = dec at HE HSZ HNE ⊢
      clear hcv hcat h00 hu hm hm2 h0 hl HD HBW hs2 hs3 hl0 hne0
      go_loopw [6, 7] (fun v6 v7 wr => ∃ (m : Nat) (ds : List UInt8), v6 = .string (B ds) ∧ v7 = .int .u64 m ∧ m ≤ n ∧ ds.length ≤ 19 ∧ Hid (Dig 16 n m ds) ∧ Hid (Below w.heap.size w wr)) (fun _ v7 _ => (intOf v7).toNat)
      case atStart => exact ⟨n, [], rfl, rfl, Nat.le_refl _, by simp, Lib.hid (Dig.start _ _), HBA⟩
      case round =>
        obtain ⟨m2, hx, rfl, rfl, hm, hl, HD, HBW⟩ := hrel
        have hm2 : (m2 : Int) ≤ 18446744073709551615 := by omega
        obtain ⟨d, hd, hd16⟩ : ∃ d : Nat, d = m2 % 16 ∧ d < 16 := ⟨_, rfl, by omega⟩
        have hand : bits .and .u64 (m2 : Int) 15 = (d : Int) := by rw [u64_and15 m2 (by have := HN.out; omega), hd]
        have hd0 : (0 : Int) ≤ (d : Int) := by omega
        have hd1 : (d : Int) < 16 := by omega
        have HD16 := Lib.hid hd
        clear hd
        obtain ⟨hT1, hT2⟩ := hexC_ok d hd16
        have HT := Lib.hid (And.intro hT1 hT2)
        clear hT1 hT2
        have hcv := bytes1 wr ((ByteArray.mk #[48, 49, 50, 51, 52, 53, 54, 55, 56, 57, 97, 98, 99, 100, 101, 102])[d]'hd16)
        have hs2 : (B [(ByteArray.mk #[48, 49, 50, 51, 52, 53, 54, 55, 56, 57, 97, 98, 99, 100, 101, 102])[d]'hd16]).size = 1 := B_size _
        have hs3 : (B hx).size = hx.length := B_size _
        by_cases h0 : m2 < 16
        · have h00 : (m2 : Int) / 16 = 0 := by omega
          have HE2 := Lib.hid (HD.out.last ((ByteArray.mk #[48, 49, 50, 51, 52, 53, 54, 55, 56, 57, 97, 98, 99, 100, 101, 102])[d]'hd16) HT.out.2 (by rw [HT.out.1, HD16.out]) (by omega))
          have hcat0 : B [(ByteArray.mk #[48, 49, 50, 51, 52, 53, 54, 55, 56, 57, 97, 98, 99, 100, 101, 102])[d]'hd16] ++ B hx = B ((ByteArray.mk #[48, 49, 50, 51, 52, 53, 54, 55, 56, 57, 97, 98, 99, 100, 101, 102])[d]'hd16 :: hx) := by rw [B_append]; rfl
          have hl0 : ((ByteArray.mk #[48, 49, 50, 51, 52, 53, 54, 55, 56, 57, 97, 98, 99, 100, 101, 102])[d]'hd16 :: hx).length ≤ 20 := by simp; omega
          have hne0 : ((ByteArray.mk #[48, 49, 50, 51, 52, 53, 54, 55, 56, 57, 97, 98, 99, 100, 101, 102])[d]'hd16 :: hx) ≠ [] := by simp
          obtain ⟨hexl, hhx⟩ : ∃ hexl, hexl = (ByteArray.mk #[48, 49, 50, 51, 52, 53, 54, 55, 56, 57, 97, 98, 99, 100, 101, 102])[d]'hd16 :: hx := ⟨_, rfl⟩
          rw [← hhx] at hcat0 HE2 hl0 hne0
          have HL2 := Lib.hid hl0
          have HNE2 := Lib.hid hne0
          clear hhx hne0
          have hsD : (B dec).size ≤ 20 := by rw [B_size]; exact HSZ.out
          have hsH : (B hexl).size ≤ 20 := by rw [B_size]; exact hl0
          obtain ⟨t1, ht1⟩ : ∃ t1, t1 = dec ++ [108] := ⟨_, rfl⟩
          have hc1 : B dec ++ ⟨#[108]⟩ = B t1 := by rw [ht1, ← B_append]; rfl
          have hz1 : (B t1).size ≤ 22 := by rw [B_size, ht1, List.length_append, ← B_size dec]; simp; omega
          obtain ⟨t2, ht2⟩ : ∃ t2, t2 = t1 ++ [59, 48, 120] := ⟨_, rfl⟩
          have hc2 : B t1 ++ ⟨#[59, 48, 120]⟩ = B t2 := by rw [ht2, ← B_append]; rfl
          have hz2 : (B t2).size ≤ 25 := by rw [B_size, ht2, List.length_append, ← B_size t1]; simp; omega
          obtain ⟨t3, ht3⟩ : ∃ t3, t3 = t2 ++ hexl := ⟨_, rfl⟩
          have hc3 : B t2 ++ B hexl = B t3 := by rw [ht3, ← B_append]
          have hz3 : (B t3).size ≤ 45 := by rw [B_size, ht3, List.length_append, ← B_size t2, ← B_size hexl]; omega
          obtain ⟨t4, ht4⟩ : ∃ t4, t4 = t3 ++ [108] := ⟨_, rfl⟩
          have hc4 : B t3 ++ ⟨#[108]⟩ = B t4 := by rw [ht4, ← B_append]; rfl
          have hz4 : (B t4).size ≤ 47 := by rw [B_size, ht4, List.length_append, ← B_size t3]; simp; omega
          have HSC := Lib.hid (show ∃ a b c, scanM t4 = _ from by
            have h := numbers_scan dec hexl false true n HN.out HE.out.1 HE2.out.1 HNE.out HNE2.out HE.out.2 HE2.out.2 (by
              have hz := hz4
              rw [B_size, ht4, ht3, ht2, ht1] at hz
              simp [tailOf] at hz ⊢; omega)
            rw [show dec ++ (tailOf false true ++ (59 :: ([48, 120] ++ (hexl ++ (tailOf false true ++ []))))) = t4 from by rw [ht4, ht3, ht2, ht1]; simp [tailOf]] at h
            exact h)
          have CS := Lib.hid (fun w hg => scan_any (B t4) (by omega) w hg)
          have h3 := H3.out
          clear ht1 ht2 ht3 ht4 HE HE2 HD HD16 HT
          go_wp2_with fail
          clear hc1 hc2 hc3 hc4 hz1 hz2 hz3 hcv hcat0 hand h3
          refine (CS.out _ ?cg).mono ?_
          case cg =>
            refine hg.below ?_
            have hbw := HBW.out
            ((repeat (first | (with_reducible exact hbw) | (with_reducible apply Below.alloc))) <;> first | omega | exact hbw.size | (simp; have := hbw.size; omega))
          rintro e w2 ⟨hr, hb3⟩
          obtain ⟨a, b, c, hsc⟩ := HSC.out
          rw [B_list, hsc] at hr
          obtain ⟨v, rfl, hown⟩ := hr
          obtain ⟨g, cap, rfl, hbg, hcap, hm, hc⟩ := own_cells hown (by simp)
          have c0 : w2.cell? ⟨g, 0, none⟩ = some (.int .i64 3) := hc 0 (by show 0 < 4 * 6; omega)
          obtain ⟨s1, c1⟩ : ∃ x, w2.cell? ⟨g, 1, none⟩ = some (.string x) := ⟨_, hc 1 (by show 1 < 4 * 6; omega)⟩
          obtain ⟨y1, c2⟩ : ∃ x : Int, w2.cell? ⟨g, 2, none⟩ = some (.int .i64 x) := ⟨_, hc 2 (by show 2 < 4 * 6; omega)⟩
          have c3 : w2.cell? ⟨g, 3, none⟩ = some (.int .u64 n) := hc 3 (by show 3 < 4 * 6; omega)
          have c4 : w2.cell? ⟨g, 4, none⟩ = some (.bool false) := hc 4 (by show 4 < 4 * 6; omega)
          have c5 : w2.cell? ⟨g, 5, none⟩ = some (.bool true) := hc 5 (by show 5 < 4 * 6; omega)
          have c12 : w2.cell? ⟨g, 12, none⟩ = some (.int .i64 3) := hc 12 (by show 12 < 4 * 6; omega)
          obtain ⟨s2, c13⟩ : ∃ x, w2.cell? ⟨g, 13, none⟩ = some (.string x) := ⟨_, hc 13 (by show 13 < 4 * 6; omega)⟩
          obtain ⟨y2, c14⟩ : ∃ x : Int, w2.cell? ⟨g, 14, none⟩ = some (.int .i64 x) := ⟨_, hc 14 (by show 14 < 4 * 6; omega)⟩
          have c15 : w2.cell? ⟨g, 15, none⟩ = some (.int .u64 n) := hc 15 (by show 15 < 4 * 6; omega)
          have c16 : w2.cell? ⟨g, 16, none⟩ = some (.bool false) := hc 16 (by show 16 < 4 * 6; omega)
          have c17 : w2.cell? ⟨g, 17, none⟩ = some (.bool true) := hc 17 (by show 17 < 4 * 6; omega)
          have hlt2 := World.block_lt_of_cell? w2 _ c0
          have HBB : Hid (Below w.heap.size w w2) := Lib.hid (by
            refine Below.trans ?_ (hb3.mono ?_)
            · have hbw := HBW.out
              ((repeat (first | (with_reducible exact hbw) | (with_reducible apply Below.alloc))) <;> first | omega | exact hbw.size | (simp; have := hbw.size; omega))
            · have := HBW.out.size
              simp; omega)
          have h1 := H1.out
          have h2 := H2.out
          clear hown hc hb3
          go_wp2_with fail
          go_region
          go_wp2_with fail
          refine wp_loop_rounds 3 ?_
          rw [rounds_succ]
          go_wp2_with fail
          rw [rounds_succ]
          go_wp2_with fail
          rw [rounds_succ]
          go_wp2_with fail
          go_ret
          refine ⟨rfl, ?_⟩
          have hbb := HBB.out
          have hbz := hbb.size
          ((repeat (first | (with_reducible exact hbb) | (with_reducible apply Below.setCell) | (with_reducible apply Below.drew) | (with_reducible apply Below.alloc))) <;> first | omega | (simp; omega))
        · have hcat0 : B [(ByteArray.mk #[48, 49, 50, 51, 52, 53, 54, 55, 56, 57, 97, 98, 99, 100, 101, 102])[d]'hd16] ++ B hx = B ((ByteArray.mk #[48, 49, 50, 51, 52, 53, 54, 55, 56, 57, 97, 98, 99, 100, 101, 102])[d]'hd16 :: hx) := by rw [B_append]; rfl
          have HR := Lib.hid (HD.out.step (b := 16) ((ByteArray.mk #[48, 49, 50, 51, 52, 53, 54, 55, 56, 57, 97, 98, 99, 100, 101, 102])[d]'hd16) HT.out.2 (by rw [HT.out.1, HD16.out]) (by omega))
          have HRL := Lib.hid (HR.out.len (by omega) HN.out)
          have HBA := Lib.hid (show Below w.heap.size w (wr.alloc (.cells #[.int .u8 ((ByteArray.mk #[48, 49, 50, 51, 52, 53, 54, 55, 56, 57, 97, 98, 99, 100, 101, 102])[d]'hd16).toNat] 5)) from HBW.out.alloc HBW.out.size _)
          have hne : ((m2 : Int) / 16 == 0) = false := by simp; omega
          go_wp2_with fail
          go_roundw
          case rel => exact ⟨m2 / 16, _, rfl, by go_num, by omega, HRL.out, HR, HBA⟩
          case measure => simp [intOf]; omega
    · have HR := Lib.hid (HD.out.step (b := 10) u HDG.out.2 HDG.out.1 (by omega))
      have HRL := Lib.hid (HR.out.len (by omega) HN.out)
      have hne : ((m : Int) / 10 == 0) = false := by simp; omega
      go_wp2_with fail
      go_roundw
      case rel => exact ⟨m / 10, _, rfl, by go_num, by omega, HRL.out, HR, HBA⟩
      case measure => simp [intOf]; omega

set_option maxRecDepth 100000 in
set_option maxHeartbeats 4000000 in
theorem numbers3 (n : Nat) (hn : n < 18446744073709551616) (how : Int) (h3 : bits .and .i64 how 3 = 3) (h1 : bits .and .i64 how 1 = 1) (h2 : bits .and .i64 how 2 = 2) (w : World) (hg : G w) :
    Calls Tryd.prog 7 #[.int .u64 n, .int .i64 how] w fun e w' => e = .returned (.bool true) ∧ Below w.heap.size w w' := by
  have C1 := Lib.hid (fit_any w hg)
  have HN := Lib.hid hn
  have H3 := Lib.hid h3
  have H1 := Lib.hid h1
  have H2 := Lib.hid h2
  clear hn h1 h2 h3
  have hn : (n : Int) ≤ 18446744073709551615 := by have := HN.out; omega
  go_enter Tryd.func7, Tryd.ntmps7
  go_wp2_with fail
  refine C1.out.mono ?_
  rintro e w1 ⟨rfl, hb⟩
  have HB1 := Lib.hid hb
  clear hb
  go_wp2_with fail
  go_loopw [5, 7] (fun v5 v7 wr => ∃ (m : Nat) (ds : List UInt8), v5 = .string (B ds) ∧ v7 = .int .u64 m ∧ m ≤ n ∧ ds.length ≤ 19 ∧ Hid (Dig 10 n m ds) ∧ Hid (Below w.heap.size w wr)) (fun _ v7 _ => (intOf v7).toNat)
  case atStart => exact ⟨n, [], rfl, rfl, Nat.le_refl _, by simp, Lib.hid (Dig.start _ _), HB1⟩
  case round =>
    obtain ⟨m, ds, rfl, rfl, hm, hl, HD, HBW⟩ := hrel
    have hm2 : (m : Int) ≤ 18446744073709551615 := by omega
    obtain ⟨u, hu⟩ : ∃ u : UInt8, (48 : Int) + (m : Int) % 10 = (u.toNat : Int) := ⟨UInt8.ofNat (48 + m % 10), by simp; omega⟩
    have hcv := bytes1 wr u
    have hcat : B [u] ++ B ds = B (u :: ds) := by rw [B_append]; rfl
    have hs2 : (B [u]).size = 1 := B_size _
    have hs3 : (B ds).size = ds.length := B_size _
    have HDG := Lib.hid (show hexV u = m % 10 ∧ baseB 10 u.toNat = true from by
      have h1 : u.toNat = 48 + m % 10 := by omega
      exact ⟨by unfold hexV; rw [if_pos (by omega)]; omega, by simp [baseB, digB]; omega⟩)
    have HBA := Lib.hid (show Below w.heap.size w (wr.alloc (.cells #[.int .u8 u.toNat] 5)) from HBW.out.alloc HBW.out.size _)
    by_cases h0 : m < 10
    · have h00 : (m : Int) / 10 = 0 := by omega
      have HE := Lib.hid (HD.out.last u HDG.out.2 HDG.out.1 (by omega))
      have hl0 : (u :: ds).length ≤ 20 := by simp; omega
      have hne0 : (u :: ds) ≠ [] := by simp
      go_wp2_with fail
      have HSZ := Lib.hid hl0
      have HNE := Lib.hid hne0
      generalize (wr.alloc (.cells #[.int .u8 u.toNat] 5)) = wx at HBA ⊢
      generalize (u :: ds) = dec at HE HSZ HNE ⊢
      clear hcv hcat h00 hu hm hm2 h0 hl HD HBW hs2 hs3 hl0 hne0
      go_loopw [6, 7] (fun v6 v7 wr => ∃ (m : Nat) (ds : List UInt8), v6 = .string (B ds) ∧ v7 = .int .u64 m ∧ m ≤ n ∧ ds.length ≤ 19 ∧ Hid (Dig 16 n m ds) ∧ Hid (Below w.heap.size w wr)) (fun _ v7 _ => (intOf v7).toNat)
      case atStart => exact ⟨n, [], rfl, rfl, Nat.le_refl _, by simp, Lib.hid (Dig.start _ _), HBA⟩
      case round =>
        obtain ⟨m2, hx, rfl, rfl, hm, hl, HD, HBW⟩ := hrel
        have hm2 : (m2 : Int) ≤ 18446744073709551615 := by omega
        obtain ⟨d, hd, hd16⟩ : ∃ d : Nat, d = m2 % 16 ∧ d < 16 := ⟨_, rfl, by omega⟩
        have hand : bits .and .u64 (m2 : Int) 15 = (d : Int) := by rw [u64_and15 m2 (by have := HN.out; omega), hd]
        have hd0 : (0 : Int) ≤ (d : Int) := by omega
        have hd1 : (d : Int) < 16 := by omega
        have HD16 := Lib.hid hd
        clear hd
        obtain ⟨hT1, hT2⟩ := hexC_ok d hd16
        have HT := Lib.hid (And.intro hT1 hT2)
        clear hT1 hT2
        have hcv := bytes1 wr ((ByteArray.mk #[48, 49, 50, 51, 52, 53, 54, 55, 56, 57, 97, 98, 99, 100, 101, 102])[d]'hd16)
        have hs2 : (B [(ByteArray.mk #[48, 49, 50, 51, 52, 53, 54, 55, 56, 57, 97, 98, 99, 100, 101, 102])[d]'hd16]).size = 1 := B_size _
        have hs3 : (B hx).size = hx.length := B_size _
        by_cases h0 : m2 < 16
        · have h00 : (m2 : Int) / 16 = 0 := by omega
          have HE2 := Lib.hid (HD.out.last ((ByteArray.mk #[48, 49, 50, 51, 52, 53, 54, 55, 56, 57, 97, 98, 99, 100, 101, 102])[d]'hd16) HT.out.2 (by rw [HT.out.1, HD16.out]) (by omega))
          have hcat0 : B [(ByteArray.mk #[48, 49, 50, 51, 52, 53, 54, 55, 56, 57, 97, 98, 99, 100, 101, 102])[d]'hd16] ++ B hx = B ((ByteArray.mk #[48, 49, 50, 51, 52, 53, 54, 55, 56, 57, 97, 98, 99, 100, 101, 102])[d]'hd16 :: hx) := by rw [B_append]; rfl
          have hl0 : ((ByteArray.mk #[48, 49, 50, 51, 52, 53, 54, 55, 56, 57, 97, 98, 99, 100, 101, 102])[d]'hd16 :: hx).length ≤ 20 := by simp; omega
          have hne0 : ((ByteArray.mk #[48, 49, 50, 51, 52, 53, 54, 55, 56, 57, 97, 98, 99, 100, 101, 102])[d]'hd16 :: hx) ≠ [] := by simp
          obtain ⟨hexl, hhx⟩ : ∃ hexl, hexl = (ByteArray.mk #[48, 49, 50, 51, 52, 53, 54, 55, 56, 57, 97, 98, 99, 100, 101, 102])[d]'hd16 :: hx := ⟨_, rfl⟩
          rw [← hhx] at hcat0 HE2 hl0 hne0
          have HL2 := Lib.hid hl0
          have HNE2 := Lib.hid hne0
          clear hhx hne0
          have hsD : (B dec).size ≤ 20 := by rw [B_size]; exact HSZ.out
          have hsH : (B hexl).size ≤ 20 := by rw [B_size]; exact hl0
          obtain ⟨t1, ht1⟩ : ∃ t1, t1 = dec ++ [117, 108] := ⟨_, rfl⟩
          have hc1 : B dec ++ ⟨#[117, 108]⟩ = B t1 := by rw [ht1, ← B_append]; rfl
          have hz1 : (B t1).size ≤ 22 := by rw [B_size, ht1, List.length_append, ← B_size dec]; simp; omega
          obtain ⟨t2, ht2⟩ : ∃ t2, t2 = t1 ++ [59, 48, 120] := ⟨_, rfl⟩
          have hc2 : B t1 ++ ⟨#[59, 48, 120]⟩ = B t2 := by rw [ht2, ← B_append]; rfl
          have hz2 : (B t2).size ≤ 25 := by rw [B_size, ht2, List.length_append, ← B_size t1]; simp; omega
          obtain ⟨t3, ht3⟩ : ∃ t3, t3 = t2 ++ hexl := ⟨_, rfl⟩
          have hc3 : B t2 ++ B hexl = B t3 := by rw [ht3, ← B_append]
          have hz3 : (B t3).size ≤ 45 := by rw [B_size, ht3, List.length_append, ← B_size t2, ← B_size hexl]; omega
          obtain ⟨t4, ht4⟩ : ∃ t4, t4 = t3 ++ [117, 108] := ⟨_, rfl⟩
          have hc4 : B t3 ++ ⟨#[117, 108]⟩ = B t4 := by rw [ht4, ← B_append]; rfl
          have hz4 : (B t4).size ≤ 47 := by rw [B_size, ht4, List.length_append, ← B_size t3]; simp; omega
          have HSC := Lib.hid (show ∃ a b c, scanM t4 = _ from by
            have h := numbers_scan dec hexl true true n HN.out HE.out.1 HE2.out.1 HNE.out HNE2.out HE.out.2 HE2.out.2 (by
              have hz := hz4
              rw [B_size, ht4, ht3, ht2, ht1] at hz
              simp [tailOf] at hz ⊢; omega)
            rw [show dec ++ (tailOf true true ++ (59 :: ([48, 120] ++ (hexl ++ (tailOf true true ++ []))))) = t4 from by rw [ht4, ht3, ht2, ht1]; simp [tailOf]] at h
            exact h)
          have CS := Lib.hid (fun w hg => scan_any (B t4) (by omega) w hg)
          have h3 := H3.out
          clear ht1 ht2 ht3 ht4 HE HE2 HD HD16 HT
          go_wp2_with fail
          clear hc1 hc2 hc3 hc4 hz1 hz2 hz3 hcv hcat0 hand h3
          refine (CS.out _ ?cg).mono ?_
          case cg =>
            refine hg.below ?_
            have hbw := HBW.out
            ((repeat (first | (with_reducible exact hbw) | (with_reducible apply Below.alloc))) <;> first | omega | exact hbw.size | (simp; have := hbw.size; omega))
          rintro e w2 ⟨hr, hb3⟩
          obtain ⟨a, b, c, hsc⟩ := HSC.out
          rw [B_list, hsc] at hr
          obtain ⟨v, rfl, hown⟩ := hr
          obtain ⟨g, cap, rfl, hbg, hcap, hm, hc⟩ := own_cells hown (by simp)
          have c0 : w2.cell? ⟨g, 0, none⟩ = some (.int .i64 3) := hc 0 (by show 0 < 4 * 6; omega)
          obtain ⟨s1, c1⟩ : ∃ x, w2.cell? ⟨g, 1, none⟩ = some (.string x) := ⟨_, hc 1 (by show 1 < 4 * 6; omega)⟩
          obtain ⟨y1, c2⟩ : ∃ x : Int, w2.cell? ⟨g, 2, none⟩ = some (.int .i64 x) := ⟨_, hc 2 (by show 2 < 4 * 6; omega)⟩
          have c3 : w2.cell? ⟨g, 3, none⟩ = some (.int .u64 n) := hc 3 (by show 3 < 4 * 6; omega)
          have c4 : w2.cell? ⟨g, 4, none⟩ = some (.bool true) := hc 4 (by show 4 < 4 * 6; omega)
          have c5 : w2.cell? ⟨g, 5, none⟩ = some (.bool true) := hc 5 (by show 5 < 4 * 6; omega)
          have c12 : w2.cell? ⟨g, 12, none⟩ = some (.int .i64 3) := hc 12 (by show 12 < 4 * 6; omega)
          obtain ⟨s2, c13⟩ : ∃ x, w2.cell? ⟨g, 13, none⟩ = some (.string x) := ⟨_, hc 13 (by show 13 < 4 * 6; omega)⟩
          obtain ⟨y2, c14⟩ : ∃ x : Int, w2.cell? ⟨g, 14, none⟩ = some (.int .i64 x) := ⟨_, hc 14 (by show 14 < 4 * 6; omega)⟩
          have c15 : w2.cell? ⟨g, 15, none⟩ = some (.int .u64 n) := hc 15 (by show 15 < 4 * 6; omega)
          have c16 : w2.cell? ⟨g, 16, none⟩ = some (.bool true) := hc 16 (by show 16 < 4 * 6; omega)
          have c17 : w2.cell? ⟨g, 17, none⟩ = some (.bool true) := hc 17 (by show 17 < 4 * 6; omega)
          have hlt2 := World.block_lt_of_cell? w2 _ c0
          have HBB : Hid (Below w.heap.size w w2) := Lib.hid (by
            refine Below.trans ?_ (hb3.mono ?_)
            · have hbw := HBW.out
              ((repeat (first | (with_reducible exact hbw) | (with_reducible apply Below.alloc))) <;> first | omega | exact hbw.size | (simp; have := hbw.size; omega))
            · have := HBW.out.size
              simp; omega)
          have h1 := H1.out
          have h2 := H2.out
          clear hown hc hb3
          go_wp2_with fail
          go_region
          go_wp2_with fail
          refine wp_loop_rounds 3 ?_
          rw [rounds_succ]
          go_wp2_with fail
          rw [rounds_succ]
          go_wp2_with fail
          rw [rounds_succ]
          go_wp2_with fail
          go_ret
          refine ⟨rfl, ?_⟩
          have hbb := HBB.out
          have hbz := hbb.size
          ((repeat (first | (with_reducible exact hbb) | (with_reducible apply Below.setCell) | (with_reducible apply Below.drew) | (with_reducible apply Below.alloc))) <;> first | omega | (simp; omega))
        · have hcat0 : B [(ByteArray.mk #[48, 49, 50, 51, 52, 53, 54, 55, 56, 57, 97, 98, 99, 100, 101, 102])[d]'hd16] ++ B hx = B ((ByteArray.mk #[48, 49, 50, 51, 52, 53, 54, 55, 56, 57, 97, 98, 99, 100, 101, 102])[d]'hd16 :: hx) := by rw [B_append]; rfl
          have HR := Lib.hid (HD.out.step (b := 16) ((ByteArray.mk #[48, 49, 50, 51, 52, 53, 54, 55, 56, 57, 97, 98, 99, 100, 101, 102])[d]'hd16) HT.out.2 (by rw [HT.out.1, HD16.out]) (by omega))
          have HRL := Lib.hid (HR.out.len (by omega) HN.out)
          have HBA := Lib.hid (show Below w.heap.size w (wr.alloc (.cells #[.int .u8 ((ByteArray.mk #[48, 49, 50, 51, 52, 53, 54, 55, 56, 57, 97, 98, 99, 100, 101, 102])[d]'hd16).toNat] 5)) from HBW.out.alloc HBW.out.size _)
          have hne : ((m2 : Int) / 16 == 0) = false := by simp; omega
          go_wp2_with fail
          go_roundw
          case rel => exact ⟨m2 / 16, _, rfl, by go_num, by omega, HRL.out, HR, HBA⟩
          case measure => simp [intOf]; omega
    · have HR := Lib.hid (HD.out.step (b := 10) u HDG.out.2 HDG.out.1 (by omega))
      have HRL := Lib.hid (HR.out.len (by omega) HN.out)
      have hne : ((m : Int) / 10 == 0) = false := by simp; omega
      go_wp2_with fail
      go_roundw
      case rel => exact ⟨m / 10, _, rfl, by go_num, by omega, HRL.out, HR, HBA⟩
      case measure => simp [intOf]; omega
end Go.Proofs.YtamimaoaafapbaaDoor
