import Derived.Test.YtamimaoaafapbaaDoorLexRD
import Derived.Test.YtamimaoaafapbaaDoorLexB
namespace Go.Proofs.YtamimaoaafapbaaDoor
open Go Go.RowKit

theorem cells_list (w : World) (L : List Value) (t : TypeId) (i : Nat) (v : Value) (h : L[i]? = some v) : (w.alloc (.cells L.toArray t)).cell? ⟨w.heap.size, i, none⟩ = some v := by
  simp [h]

/-- A list of texts that a call lays into a new block. -/
structure ListAt (w w' : World) (N : Nat) (g : List (List UInt8)) : Prop where
  cells : ∀ i, i < g.length → w'.cell? ⟨N, i, none⟩ = some (.string (B (g.getD i [])))
  below : Below w.heap.size w w'
  lo : w.heap.size ≤ N
  hi : N < w'.heap.size

theorem listAt_alloc (w : World) (g : List (List UInt8)) (t : TypeId) (L : List Value) (hL : L = g.map (fun l => .string (B l))) : ListAt w (w.alloc (.cells L.toArray t)) w.heap.size g := by
  subst hL
  refine ⟨fun i hi => cells_list w _ t i _ ?_, (Below.refl _ _).alloc (Nat.le_refl _) _, Nat.le_refl _, by simp⟩
  rw [List.getElem?_map, List.getElem?_eq_getElem hi, Option.map_some, List.getD, List.getElem?_eq_getElem hi, Option.getD_some]

set_option maxRecDepth 100000 in
set_option maxHeartbeats 1000000 in
theorem words_any (w : World) : Calls Tryd.prog 27 #[] w fun e w' => ∃ N, e = .returned (.slice (some ⟨N, 0, none⟩) 22 22) ∧ ListAt w w' N words := by
  go_enter Tryd.func27, Tryd.ntmps27
  go_wp2_with fail
  go_ret
  exact ⟨w.heap.size, rfl, listAt_alloc w words 9 _ rfl⟩

set_option maxRecDepth 100000 in
set_option maxHeartbeats 2000000 in
theorem signs_any (w : World) : Calls Tryd.prog 28 #[] w fun e w' => ∃ N, e = .returned (.slice (some ⟨N, 0, none⟩) 45 45) ∧ ListAt w w' N signs := by
  go_enter Tryd.func28, Tryd.ntmps28
  go_wp2_with fail
  go_ret
  exact ⟨w.heap.size, rfl, listAt_alloc w signs 9 _ rfl⟩

/-- What one hands back: the token, or one without a text. -/
def OneRes (a : Nat) (o : Option Tok) (e : Ending) : Prop := match o with
  | some t => e = .returned (rTokV { t with at_ := a })
  | none => ∃ t : Tok, t.text = [] ∧ e = .returned (rTokV t)

/-- A result's place, untouched. -/
structure Res6 (w : World) (b : Nat) : Prop where
  c0 : w.cell? ⟨b, 0, none⟩ = some (.int .i64 0)
  c1 : w.cell? ⟨b, 1, none⟩ = some (.int .i64 0)
  c2 : w.cell? ⟨b, 2, none⟩ = some (.string ⟨#[]⟩)
  c3 : w.cell? ⟨b, 3, none⟩ = some (.int .u64 0)
  c4 : w.cell? ⟨b, 4, none⟩ = some (.bool false)
  c5 : w.cell? ⟨b, 5, none⟩ = some (.bool false)
  f0 : w.frozen? ⟨b, 0, none⟩ = false
  f1 : w.frozen? ⟨b, 1, none⟩ = false
  f2 : w.frozen? ⟨b, 2, none⟩ = false
  f3 : w.frozen? ⟨b, 3, none⟩ = false
  f4 : w.frozen? ⟨b, 4, none⟩ = false
  f5 : w.frozen? ⟨b, 5, none⟩ = false
  lt : b < w.heap.size

theorem res6_alloc (w : World) (t : TypeId) : Res6 (w.alloc (.cells #[.int .i64 0, .int .i64 0, .string ⟨#[]⟩, .int .u64 0, .bool false, .bool false] t)) w.heap.size := by
  constructor <;> simp
theorem Res6.below {w w' : World} {b lim : Nat} (h : Res6 w b) (hb : Below lim w w') (hl : b < lim) : Res6 w' b := by
  obtain ⟨h0, h1, h2, h3, h4, h5, f0, f1, f2, f3, f4, f5, lt⟩ := h
  constructor
  case lt => have := hb.size; omega
  all_goals first | (rw [hb.cell (by exact hl)]; assumption) | (rw [hb.frozen (by exact hl)]; assumption)
theorem Res6.drewN {w : World} {b : Nat} (h : Res6 w b) (n : Nat) : Res6 (w.drewN n) b := by
  obtain ⟨h0, h1, h2, h3, h4, h5, f0, f1, f2, f3, f4, f5, lt⟩ := h
  constructor <;> simpa
theorem ListAt.drewN {w w' : World} {N : Nat} {g : List (List UInt8)} (h : ListAt w w' N g) (n : Nat) : ListAt w (w'.drewN n) N g :=
  ⟨fun i hi => by rw [World.cell?_drewN]; exact h.cells i hi, below_drewN h.below n, h.lo, by simpa using h.hi⟩

theorem signT_form (L : List UInt8) (t : Tok) (h : signT L = some t) : t = signOf t.text ∧ t.text ≠ [] := by
  unfold signT at h
  have key : ∀ k, signDown k L = some t → t = signOf t.text ∧ t.text ≠ [] := by
    intro k
    induction k with
    | zero => intro h; cases h
    | succ k ih =>
      intro h
      unfold signDown at h
      by_cases c7 : signs.contains (L.take (k + 1)) = true
      · rw [if_pos c7] at h
        injection h with h
        subst h
        refine ⟨rfl, fun h => ?_⟩
        have h2 : L.take (k + 1) = [] := h
        rw [h2] at c7
        exact absurd c7 (by decide)
      · rw [if_neg c7] at h; exact ih h
  exact key _ h

theorem best_one (a : Nat) (L bst : List UInt8) (h : bestF signs L [] = bst) : OneRes a (signT L) (.returned (rTokV { kind := 4, text := bst, at_ := a, value := 0, uns := false, long := false })) := by
  rw [best_sign] at h
  cases ho : signT L with
  | none =>
    rw [ho] at h
    exact ⟨{ kind := 4, text := bst, at_ := a, value := 0, uns := false, long := false }, h.symm, rfl⟩
  | some t =>
    rw [ho] at h
    have h2 : t.text = bst := h
    have h3 := (signT_form L t ho).1
    show _ = Ending.returned (rTokV { t with at_ := a })
    rw [h3, h2]; rfl

theorem bestF_cons (g : List UInt8) (gs : List (List UInt8)) (l acc : List UInt8) : bestF (g :: gs) l acc = bestF gs l (if acc.length < g.length ∧ Lib.hasPrefix l g = true then g else acc) := rfl
theorem bestF_nil (l acc : List UInt8) : bestF [] l acc = acc := rfl
theorem sign_drop (i : Nat) (h : i < signs.length) : signs.drop i = signs.getD i [] :: signs.drop (i + 1) := by
  rw [List.drop_eq_getElem_cons h, List.getD, List.getElem?_eq_getElem h, Option.getD_some]
theorem sign_len : ∀ g ∈ signs, 1 ≤ g.length ∧ g.length ≤ 3 := by decide
theorem sign_len_at (i : Nat) (h : i < 45) : 1 ≤ (signs.getD i []).length ∧ (signs.getD i []).length ≤ 3 := by
  have hm : signs.getD i [] ∈ signs := by
    rw [List.getD, List.getElem?_eq_getElem (show i < signs.length from h), Option.getD_some]
    exact List.getElem_mem _
  exact sign_len _ hm
theorem pre_ext (s : ByteArray) (a n : Nat) (g : List UInt8) (hg : g.length = n) (h : a + n ≤ s.size) : ((s.extract a (a + n)).toList == (B g).toList) = Lib.hasPrefix (s.data.toList.drop a) g := by
  rw [← Lib.hasPrefix_of_take, Lib.extract_toList, Lib.toList_data, B_list, show a + n - a = g.length from by omega, List.length_drop, ← Lib.size_eq, show decide (g.length ≤ s.size - a) = true from decide_eq_true (by omega), Bool.true_and]
theorem pre_big (s : ByteArray) (a : Nat) (g : List UInt8) (hg : 0 < g.length) (h : s.size < a + g.length) : Lib.hasPrefix (s.data.toList.drop a) g = false := by
  rw [← Lib.hasPrefix_of_take, List.length_drop, ← Lib.size_eq, show decide (g.length ≤ s.size - a) = false from decide_eq_false (by omega), Bool.false_and]

theorem signs_pack (a : Nat) (L : List UInt8) : ∃ (G : Nat → List UInt8) (F : Nat → List UInt8 → List UInt8), (∀ i, i < 45 → 1 ≤ (G i).length ∧ (G i).length ≤ 3) ∧
    (∀ i acc, i < 45 → F i acc = F (i + 1) (if acc.length < (G i).length ∧ Lib.hasPrefix L (G i) = true then G i else acc)) ∧ (∀ acc, F 45 acc = acc) ∧
    (∀ b, F 0 [] = b → OneRes a (signT L) (.returned (rTokV { kind := 4, text := b, at_ := a, value := 0, uns := false, long := false }))) ∧ (∀ i, signs.getD i [] = G i) := by
  refine ⟨fun i => signs.getD i [], fun i acc => bestF (signs.drop i) L acc, fun i h => sign_len_at i h, fun i acc h => ?_, fun acc => ?_, fun b h => ?_, fun i => rfl⟩
  · show bestF (signs.drop i) L acc = _
    rw [sign_drop i h, bestF_cons]
  · show bestF (signs.drop 45) L acc = acc
    rw [show signs.drop 45 = [] from rfl, bestF_nil]
  · have h2 : bestF (signs.drop 0) L [] = b := h
    rw [List.drop_zero] at h2
    exact best_one a L b h2

set_option maxRecDepth 100000 in
set_option maxHeartbeats 1000000 in
theorem one_sign (s : ByteArray) (hs : s.size ≤ 1048576) (a : Nat) (ha : a < s.size) (hd : digB (s[a].toNat : Int) = false) (hp : partB (s[a].toNat : Int) = false) (hq : ((s[a].toNat : Int) == 39) = false) (w : World) :
    Calls Tryd.prog 15 #[.string s, .int .i64 a] w fun e w' => OneRes a (signT (s.data.toList.drop a)) e ∧ Below w.heap.size w w' := by
  have HP := Lib.hid hp
  have hdd : ((s[a].toNat : Int) < 48) ∨ (57 < (s[a].toNat : Int)) := by simp [digB] at hd; omega
  obtain ⟨G, F, hG, hF, hF45, hF0, hGs⟩ := signs_pack a (s.data.toList.drop a)
  have HGL := Lib.hid hG
  have HF := Lib.hid hF
  have HF45 := Lib.hid hF45
  have HF0 := Lib.hid hF0
  have HGS := Lib.hid hGs
  clear hd hp hG hF hF45 hF0 hGs
  rcases hdd with hdd | hdd
  all_goals
    go_enter Tryd.func15, Tryd.ntmps15
    go_wp2_with (go_at_call 26; (with_reducible refine (wordy_any _ _).mono ?_); rintro e w' ⟨rfl, rfl⟩; rw [HP.out])
    refine (signs_any _).mono ?_
    rintro e w1 ⟨N, rfl, hLA⟩
    have HR := Lib.hid ((res6_alloc w 49).below hLA.below (by simp))
    have HBL := Lib.hid (((Below.refl _ _).alloc (Nat.le_refl _) _ : Below w.heap.size w (w.alloc (.cells #[.int .i64 0, .int .i64 0, .string ⟨#[]⟩, .int .u64 0, .bool false, .bool false] 49))).trans (hLA.below.mono (by simp)))
    have HLC := Lib.hid (show ∀ i, i < 45 → w1.cell? ⟨N, i, none⟩ = some (.string (B (G i))) from fun i h => by rw [← HGS.out i]; exact hLA.cells i h)
    have HNH := Lib.hid hLA.hi
    clear hLA HGS
    go_wp2_with fail
    go_loopw [10, 12] (fun vb vi wr => ∃ (i : Nat) (b : List UInt8), vi = .int .i64 i ∧ i ≤ 45 ∧ vb = .string (B b) ∧ b.length ≤ 3 ∧ Hid (F 0 [] = F i b) ∧ ∃ q, wr = w1.drewN q) (fun _ vi _ => 45 - (intOf vi).toNat)
    case atStart => exact ⟨0, [], rfl, by omega, rfl, by simp, Lib.hid rfl, 0, rfl⟩
    case round =>
      obtain ⟨i, b, rfl, hi, rfl, hb3, HK, q, rfl⟩ := hrel
      by_cases hlt : i < 45
      · obtain ⟨g, hg⟩ : ∃ g, g = G i := ⟨_, rfl⟩
        have hgl := HGL.out i hlt
        have hcell := HLC.out i hlt
        have hstep := HK.out.trans (HF.out i b hlt)
        rw [← hg] at hgl hcell hstep
        obtain ⟨n, hn⟩ : ∃ n, n = g.length := ⟨_, rfl⟩
        rw [← hn] at hgl
        have hgs : (B g).size = n := by rw [B_size, hn]
        have hbs : (B b).size = b.length := B_size _
        have HST := Lib.hid hstep
        have HGN := Lib.hid hn
        obtain ⟨hg1, hg3⟩ := hgl
        have hnh := HNH.out
        clear hn hg hstep HK
        by_cases h1 : b.length < n
        · have hi1 : (b.length : Int) < (n : Int) := by omega
          by_cases h2 : a + n ≤ s.size
          · have hi2 : (a : Int) + (n : Int) ≤ (s.size : Int) := by omega
            cases h3 : Lib.hasPrefix (s.data.toList.drop a) g with
            | true =>
              have hx := (pre_ext s a n g HGN.out.symm h2).trans h3
              have HR2 : Hid (F 0 [] = F (i + 1) g) := by
                have h := HST.out
                rw [if_pos ⟨by rw [← HGN.out]; exact h1, h3⟩] at h
                exact Lib.hid h
              clear h3 HST
              go_wp2_with fail
              go_quiet (fail)
              go_wp2_with fail
              go_roundw
              case rel => exact ⟨i + 1, g, by go_num, by omega, rfl, by have := HGN.out; omega, HR2, _, rfl⟩
              case measure => simp [intOf]; omega
            | false =>
              have hx := (pre_ext s a n g HGN.out.symm h2).trans h3
              have HR2 : Hid (F 0 [] = F (i + 1) b) := by
                have h := HST.out
                rw [if_neg (fun h => by rw [h3] at h; exact absurd h.2 (by simp))] at h
                exact Lib.hid h
              clear h3 HST
              go_wp2_with fail
              go_quiet (fail)
              go_wp2_with fail
              go_roundw
              case rel => exact ⟨i + 1, b, by go_num, by omega, rfl, hb3, HR2, _, rfl⟩
              case measure => simp [intOf]; omega
          · have hi2 : ¬ (a : Int) + (n : Int) ≤ (s.size : Int) := by omega
            have hd2 : decide (a + n ≤ s.size) = false := decide_eq_false h2
            have hd3 : decide ((a : Int) + (n : Int) ≤ (s.size : Int)) = false := decide_eq_false hi2
            have HR2 : Hid (F 0 [] = F (i + 1) b) := by
              have h := HST.out
              rw [if_neg (fun h => by rw [pre_big s a g (by have := HGN.out; omega) (by have := HGN.out; omega)] at h; exact absurd h.2 (by simp))] at h
              exact Lib.hid h
            clear HST
            go_wp2_with fail
            go_quiet (fail)
            go_wp2_with fail
            go_roundw
            case rel => exact ⟨i + 1, b, by go_num, by omega, rfl, hb3, HR2, _, rfl⟩
            case measure => simp [intOf]; omega
        · have hi1 : ¬ (b.length : Int) < (n : Int) := by omega
          have hd1 : decide (b.length < n) = false := decide_eq_false h1
          have HR2 : Hid (F 0 [] = F (i + 1) b) := by
            have h := HST.out
            rw [if_neg (fun h => by have := HGN.out; omega)] at h
            exact Lib.hid h
          clear HST
          go_wp2_with fail
          go_quiet (fail)
          go_wp2_with fail
          go_roundw
          case rel => exact ⟨i + 1, b, by go_num, by omega, rfl, hb3, HR2, _, rfl⟩
          case measure => simp [intOf]; omega
      · have HB : Hid (F 0 [] = b) := by
          have h := HK.out
          rw [show i = 45 from by omega, HF45.out] at h
          exact Lib.hid h
        obtain ⟨x0, x1, x2, x3, x4, x5, y0, y1, y2, y3, y4, y5, hlt1⟩ := HR.out
        have HFIN := Lib.hid (HF0.out b HB.out)
        clear HK HB HF HF45 HF0 HLC
        go_wp2_with fail
        refine bodyPost_ret (v := rTokV { kind := 4, text := b, at_ := a, value := 0, uns := false, long := false }) ?_ rfl ⟨HFIN.out, ?_⟩
        · simp [results, Tryd.results15, go_sem, rTokV, x0, x1, x2, x3, x4, x5]
        · have hbl := HBL.out
          ((repeat (first | (with_reducible exact hbl) | (with_reducible apply Below.setCell) | (with_reducible apply below_drewN) | (with_reducible apply Below.alloc))) <;> first | omega | (simp; done) | (simp; omega))

theorem cell_far (w : World) (p : Addr) (u : Value) (b o : Nat) (h : p.block ≠ b) : (w.setCell p u).cell? ⟨b, o, none⟩ = w.cell? ⟨b, o, none⟩ :=
  World.cell?_of_block (Below.heap_setCell w p u b (Ne.symm h))
theorem Res6.set {w : World} {b : Nat} (h : Res6 w b) {p : Addr} (hp : p.block ≠ b) (u : Value) : Res6 (w.setCell p u) b := by
  obtain ⟨h0, h1, h2, h3, h4, h5, f0, f1, f2, f3, f4, f5, lt⟩ := h
  constructor
  case lt => simpa using lt
  all_goals first | (rw [cell_far _ _ _ _ _ hp]; assumption) | simpa

/-- A token of the call's own, its kind as far as it is known. -/
structure NmAt (w : World) (b : Nat) (a k : Int) (tx : ByteArray) : Prop where
  c0 : w.cell? ⟨b, 0, none⟩ = some (.int .i64 k)
  c1 : w.cell? ⟨b, 1, none⟩ = some (.int .i64 a)
  c2 : w.cell? ⟨b, 2, none⟩ = some (.string tx)
  c3 : w.cell? ⟨b, 3, none⟩ = some (.int .u64 0)
  c4 : w.cell? ⟨b, 4, none⟩ = some (.bool false)
  c5 : w.cell? ⟨b, 5, none⟩ = some (.bool false)
  f0 : w.frozen? ⟨b, 0, none⟩ = false
  lt : b < w.heap.size
theorem nmAt_alloc (w : World) (a k : Int) (tx : ByteArray) (t : TypeId) : NmAt (w.alloc (.cells #[.int .i64 k, .int .i64 a, .string tx, .int .u64 0, .bool false, .bool false] t)) w.heap.size a k tx := by
  constructor <;> simp
theorem NmAt.below {w w' : World} {b lim : Nat} {a k : Int} {tx : ByteArray} (h : NmAt w b a k tx) (hb : Below lim w w') (hl : b < lim) : NmAt w' b a k tx := by
  obtain ⟨h0, h1, h2, h3, h4, h5, f0, lt⟩ := h
  constructor
  case lt => have := hb.size; omega
  all_goals first | (rw [hb.cell (by exact hl)]; assumption) | (rw [hb.frozen (by exact hl)]; assumption)
theorem NmAt.drewN {w : World} {b : Nat} {a k : Int} {tx : ByteArray} (h : NmAt w b a k tx) (n : Nat) : NmAt (w.drewN n) b a k tx := by
  obtain ⟨h0, h1, h2, h3, h4, h5, f0, lt⟩ := h
  constructor <;> simpa
theorem NmAt.kind {w : World} {b : Nat} {a k : Int} {tx : ByteArray} (h : NmAt w b a k tx) (k' : Int) : NmAt (w.setCell ⟨b, 0, none⟩ (.int .i64 k')) b a k' tx := by
  obtain ⟨h0, h1, h2, h3, h4, h5, f0, lt⟩ := h
  constructor <;> simp [go_sem, h0, h1, h2, h3, h4, h5, f0, lt]

def kindF (i : Nat) (x : List UInt8) : Int := if (words.take i).contains x then 2 else 1
theorem kindF_step (i : Nat) (h : i < 22) (x : List UInt8) : kindF (i + 1) x = if words.getD i [] = x then 2 else kindF i x := by
  have h2 : i < words.length := h
  have e : words.take (i + 1) = words.take i ++ [words.getD i []] := by
    rw [List.take_succ_eq_append_getElem h2, List.getD, List.getElem?_eq_getElem h2, Option.getD_some]
  unfold kindF
  rw [e, List.contains_append]
  by_cases hx : words.getD i [] = x
  · rw [if_pos hx, hx]; simp
  · rw [if_neg hx]
    have : [words.getD i []].contains x = false := by simpa using (fun h => hx h.symm)
    rw [this, Bool.or_false]

theorem nameT_run (L : List UInt8) (n : Nat) (h : runLen (fun c => partB c.toNat) L = n) (hn : 0 < n) : nameT L = if 40 < n then none else some { kind := if words.contains (L.take n) then 2 else 1, text := L.take n, at_ := 0, value := 0, uns := false, long := false } := by
  have e : runLen (fun c => partB c.toNat) (L.drop 1) + 1 = n := by
    cases L with
    | nil => rw [← h] at hn; simp [runLen] at hn
    | cons c t =>
      have h2 := run_step (fun c => partB c.toNat) (c :: t) 0 (by simp)
      rw [List.drop_zero, h] at h2
      by_cases hp : partB ((c :: t)[0].toNat : Int) = true
      · rw [if_pos hp] at h2
        exact h2.symm
      · rw [if_neg hp] at h2; omega
  unfold nameT
  rw [e]

theorem words_pack (x : List UInt8) : ∃ (W : Nat → List UInt8) (KF : Nat → Int) (kk : Nat), (∀ i, words.getD i [] = W i) ∧ KF 0 = 1 ∧ (∀ i, i < 22 → KF (i + 1) = if W i = x then 2 else KF i) ∧ KF 22 = kk ∧ (if words.contains x then 2 else 1) = kk := by
  refine ⟨fun i => words.getD i [], fun i => kindF i x, if words.contains x then 2 else 1, fun i => rfl, rfl, fun i h => kindF_step i h x, ?_, rfl⟩
  show kindF 22 x = _
  unfold kindF
  rw [show words.take 22 = words from rfl]
  split <;> rfl

set_option maxRecDepth 100000 in
set_option maxHeartbeats 1000000 in
theorem one_name (s : ByteArray) (hs : s.size ≤ 1048576) (a : Nat) (ha : a < s.size) (hd : digB (s[a].toNat : Int) = false) (hp : partB (s[a].toNat : Int) = true) (hq : ((s[a].toNat : Int) == 39) = false) (w : World) :
    Calls Tryd.prog 15 #[.string s, .int .i64 a] w fun e w' => OneRes a (nameT (s.data.toList.drop a)) e ∧ Below w.heap.size w w' := by
  have HS := Lib.hid (Lib.size_eq s)
  have HP := Lib.hid hp
  have hdd : ((s[a].toNat : Int) < 48) ∨ (57 < (s[a].toNat : Int)) := by simp [digB] at hd; omega
  have hst0 := run_step (fun c => partB c.toNat) s.data.toList a (by rw [← HS.out]; exact ha)
  rw [if_pos (show partB (s.data.toList[a].toNat : Int) = true from hp)] at hst0
  have HR0 := Lib.hid hst0
  clear hd hp hst0
  rcases hdd with hdd | hdd
  all_goals
    go_enter Tryd.func15, Tryd.ntmps15
    go_wp2_with (go_at_call 26; (with_reducible refine (wordy_any _ _).mono ?_); rintro e w' ⟨rfl, rfl⟩; rw [HP.out])
    go_loop [6] (fun v6 => ∃ e : Nat, v6 = .int .i64 e ∧ a ≤ e ∧ e ≤ s.size ∧ Hid (a + runLen (fun c => partB c.toNat) (s.data.toList.drop a) = e + runLen (fun c => partB c.toNat) (s.data.toList.drop e))) (fun v6 => s.size - (intOf v6).toNat)
    case atStart => exact ⟨a, rfl, Nat.le_refl _, by omega, Lib.hid rfl⟩
    case round =>
      obtain ⟨e, rfl, hae, hes, HE⟩ := hrel
      have hex : (∃ h : e < s.size, partB (s[e].toNat : Int) = true) ∨ ((¬ e < s.size ∨ ∃ h : e < s.size, partB (s[e].toNat : Int) = false) ∧ runLen (fun c => partB c.toNat) (s.data.toList.drop e) = 0) := by
        by_cases hlt : e < s.size
        · cases hpe : partB (s[e].toNat : Int) with
          | true => exact .inl ⟨hlt, hpe⟩
          | false =>
            refine .inr ⟨.inr ⟨hlt, hpe⟩, ?_⟩
            rw [run_step (fun c => partB c.toNat) s.data.toList e (by rw [← HS.out]; exact hlt), if_neg]
            rw [show partB (s.data.toList[e].toNat : Int) = false from hpe]; simp
        · exact .inr ⟨.inl hlt, run_end _ _ _ (by rw [← HS.out]; omega)⟩
      rcases hex with ⟨hlt, hpe⟩ | ⟨hwhy, h0⟩
      · have HR2 : Hid (a + runLen (fun c => partB c.toNat) (s.data.toList.drop a) = (e + 1) + runLen (fun c => partB c.toNat) (s.data.toList.drop (e + 1))) := by
          have h := HE.out
          rw [run_step (fun c => partB c.toNat) s.data.toList e (by rw [← HS.out]; exact hlt), if_pos (show partB (s.data.toList[e].toNat : Int) = true from hpe)] at h
          exact Lib.hid (by omega)
        have HPE := Lib.hid hpe
        clear hpe
        go_wp2_with (go_at_call 26; (with_reducible refine (wordy_any _ _).mono ?_); rintro e w' ⟨rfl, rfl⟩; rw [HPE.out])
        go_round
        case rel => exact ⟨e + 1, by go_num, by omega, by omega, HR2⟩
        case measure => simp [intOf]; omega
      · obtain ⟨n, hn⟩ : ∃ n, n = e - a := ⟨_, rfl⟩
        have hN : runLen (fun c => partB c.toNat) (s.data.toList.drop a) = n := by have h := HE.out; rw [h0] at h; omega
        have hn0 : 0 < n := by have h := HR0.out; rw [hN] at h; omega
        have HNT := Lib.hid (nameT_run _ n hN hn0)
        have hen : (e : Int) - (a : Int) = (n : Int) := by omega
        have HX := Lib.hid (show s.extract a e = B ((s.data.toList.drop a).take n) by rw [B_extract, hn])
        have hae2 : a < e := by omega
        have HEN := Lib.hid hn
        clear hN h0 hn HE
        by_cases h40 : 40 < n
        · have HNN := Lib.hid (HNT.out.trans (if_pos h40))
          have hi40 : (40 : Int) < (n : Int) := by omega
          rcases hwhy with hend | ⟨hlt, hpe⟩
          case' inl => skip
          case' inr => have HPE := Lib.hid hpe
          case' inr => clear hpe
          all_goals
            go_wp2_with (go_at_call 26; (with_reducible refine (wordy_any _ _).mono ?_); rintro e w' ⟨rfl, rfl⟩; rw [HPE.out])
            refine bodyPost_ret (v := rTokV rtok0) ?_ rfl ⟨by rw [HNN.out]; exact ⟨rtok0, rfl, rfl⟩, ?_⟩
            · simp [results, Tryd.results15, go_sem, rTokV, rtok0]; rfl
            · ((repeat (first | (with_reducible exact Below.refl _ _) | (with_reducible apply Below.setCell) | (with_reducible apply below_drewN) | (with_reducible apply Below.alloc))) <;> first | omega | (simp; done) | (simp; omega))
        · obtain ⟨W, KF, kk, hWs, hK0, hKs, hK22, hkk⟩ := words_pack ((s.data.toList.drop a).take n)
          have HNN := Lib.hid (show nameT (s.data.toList.drop a) = some { kind := kk, text := (s.data.toList.drop a).take n, at_ := 0, value := 0, uns := false, long := false } by rw [HNT.out, if_neg h40, hkk])
          obtain ⟨tx, hx⟩ : ∃ tx, s.extract a e = tx := ⟨_, rfl⟩
          have HXT := Lib.hid (show tx = B ((s.data.toList.drop a).take n) by rw [← hx]; exact HX.out)
          have hi40 : ¬ (40 : Int) < (n : Int) := by omega
          have HWS := Lib.hid hWs
          have HK0 := Lib.hid hK0
          have HKS := Lib.hid hKs
          have HK22 := Lib.hid hK22
          clear hWs hK0 hKs hK22 hkk HNT HX
          rcases hwhy with hend | ⟨hlt, hpe⟩
          case' inl => skip
          case' inr => have HPE := Lib.hid hpe
          case' inr => clear hpe
          all_goals
            go_wp2_with (go_at_call 26; (with_reducible refine (wordy_any _ _).mono ?_); rintro e w' ⟨rfl, rfl⟩; rw [HPE.out])
            refine (words_any _).mono ?_
            rintro e2 w1 ⟨M, rfl, hLA⟩
            have HRS := Lib.hid (((res6_alloc w 49).below ((Below.refl _ _).alloc (Nat.le_refl _) (.cells #[.int .i64 1, .int .i64 a, .string tx, .int .u64 0, .bool false, .bool false] 49)) (by simp)).below hLA.below (by simp; omega))
            have hnm0 := nmAt_alloc (w.alloc (.cells #[.int .i64 0, .int .i64 0, .string ⟨#[]⟩, .int .u64 0, .bool false, .bool false] 49)) a 1 tx 49
            rw [World.size_alloc] at hnm0
            have HNM := Lib.hid (show NmAt w1 (w.heap.size + 1) a (KF 0) tx by rw [HK0.out]; exact hnm0.below hLA.below (by simp))
            have HBL := Lib.hid (show Below w.heap.size w w1 from (((Below.refl _ _).alloc (Nat.le_refl _) _).alloc (by simp) _).trans (hLA.below.mono (by simp; omega)))
            have HLC := Lib.hid (show ∀ i, i < 22 → w1.cell? ⟨M, i, none⟩ = some (.string (B (W i))) from fun i h => by rw [← HWS.out i]; exact hLA.cells i h)
            have hM1 : M < w1.heap.size := hLA.hi
            have hM0 : w.heap.size + 1 < M := by have := hLA.lo; simp at this; omega
            clear hLA hnm0 HWS
            go_wp2_with fail
            go_loopw [9] (fun vi wr => ∃ i : Nat, vi = .int .i64 i ∧ i ≤ 22 ∧ Hid (NmAt wr (w.heap.size + 1) a (KF i) tx) ∧ Hid (Res6 wr w.heap.size) ∧ Hid (∀ j, j < 22 → wr.cell? ⟨M, j, none⟩ = some (.string (B (W j)))) ∧ Hid (Below w.heap.size w wr) ∧ M < wr.heap.size) (fun vi _ => 22 - (intOf vi).toNat)
            case atStart => exact ⟨0, rfl, by omega, HNM, HRS, HLC, HBL, hM1⟩
            case round =>
              clear HNM HRS HLC HBL hM1
              obtain ⟨i, rfl, hi, HNM, HRS, HLC, HBL, hM1⟩ := hrel
              by_cases hlt22 : i < 22
              · obtain ⟨g, hg⟩ : ∃ g, g = W i := ⟨_, rfl⟩
                have hcell := HLC.out i hlt22
                have hks := HKS.out i hlt22
                rw [← hg] at hcell hks
                have hT : (B g).toList = g := by rw [Lib.toList_data, B_list]
                have hT2 : tx.toList = (s.data.toList.drop a).take n := by rw [HXT.out, Lib.toList_data, B_list]
                obtain ⟨c0, c1, c2, c3, c4, c5, f0, hlt1⟩ := HNM.out
                by_cases hgx : g = (s.data.toList.drop a).take n
                · rw [if_pos hgx] at hks
                  have hxx : ((B g).toList == tx.toList) = true := by rw [hT, hT2, hgx]; simp
                  have HKN := Lib.hid hks
                  clear hg hks hT hT2 hgx
                  go_wp2_with fail
                  go_quiet (fail)
                  go_wp2_with fail
                  go_roundw
                  case rel => exact ⟨i + 1, by go_num, by omega, Lib.hid (by rw [HKN.out]; exact (HNM.out.drewN _).kind 2), Lib.hid (Res6.set (HRS.out.drewN _) (p := ⟨w.heap.size + 1, 0, none⟩) (by simp) _), Lib.hid (fun j hj => by rw [cell_far _ _ _ _ _ (by simp; omega), World.cell?_drewN]; exact HLC.out j hj), Lib.hid (Below.setCell (below_drewN HBL.out _) (p := ⟨w.heap.size + 1, 0, none⟩) (by simp) _), by simpa using hM1⟩
                  case measure => simp [intOf]; omega
                · rw [if_neg hgx] at hks
                  have hxx : ((B g).toList == tx.toList) = false := by rw [hT, hT2]; exact beq_eq_false_iff_ne.2 hgx
                  have HKN := Lib.hid hks
                  clear hg hks hT hT2 hgx
                  go_wp2_with fail
                  go_quiet (fail)
                  go_wp2_with fail
                  go_roundw
                  case rel => exact ⟨i + 1, by go_num, by omega, Lib.hid (by rw [HKN.out]; exact HNM.out.drewN _), Lib.hid (HRS.out.drewN _), Lib.hid (fun j hj => by rw [World.cell?_drewN]; exact HLC.out j hj), Lib.hid (below_drewN HBL.out _), by simpa using hM1⟩
                  case measure => simp [intOf]; omega
              · have hnm := HNM.out
                rw [show i = 22 from by omega, HK22.out] at hnm
                obtain ⟨c0, c1, c2, c3, c4, c5, f0, hlt1⟩ := hnm
                obtain ⟨x0, x1, x2, x3, x4, x5, y0, y1, y2, y3, y4, y5, hlt2⟩ := HRS.out
                clear HNM HLC HKS HK22 HK0
                go_wp2_with fail
                refine bodyPost_ret (v := rTokV { kind := kk, text := (s.data.toList.drop a).take n, at_ := a, value := 0, uns := false, long := false }) ?_ rfl ⟨by rw [HNN.out]; rfl, ?_⟩
                · simp [results, Tryd.results15, go_sem, rTokV, x0, x1, x2, x3, x4, x5, HXT.out]
                · have hbl := HBL.out
                  ((repeat (first | (with_reducible exact hbl) | (with_reducible apply Below.setCell) | (with_reducible apply below_drewN) | (with_reducible apply Below.alloc))) <;> first | omega | (simp; done) | (simp; omega))

theorem oneRes_of (a : Nat) (o : Option Tok) : OneRes a o (.returned (rTokV (rAt a o))) := by
  cases o with
  | none => exact ⟨rtok0, rfl, rfl⟩
  | some t => rfl
theorem rnumber_any (s : ByteArray) (hs : s.size ≤ 1048576) (a : Nat) (ha : a < s.size) (w : World) :
    Calls Tryd.prog 24 #[.string s, .int .i64 a] w fun e w' => e = .returned (rTokV (rAt a (numberT (s.data.toList.drop a)))) ∧ Below w.heap.size w w' := by
  cases hp : Lib.hasPrefix (s.data.toList.drop a) [48, 120] with
  | true => exact rnumber16 s hs a ha hp w
  | false => exact rnumber10 s hs a ha hp w

set_option maxRecDepth 100000 in
set_option maxHeartbeats 1000000 in
/-- The token at a place: not at a comment that doesn't end. -/
theorem one_any (s : ByteArray) (hs : s.size ≤ 1048576) (a : Nat) (ha : a < s.size) (hc : Lib.hasPrefix (s.data.toList.drop a) [47, 42] = false) (w : World) :
    Calls Tryd.prog 15 #[.string s, .int .i64 a] w fun e w' => OneRes a (firstT (s.data.toList.drop a)) e ∧ Below w.heap.size w w' := by
  have hg : (s.data.toList.drop a).getD 0 0 = s[a] := drop_getD s a ha
  cases hd : digB (s[a].toNat : Int) with
  | true =>
    have hl : letB (s[a].toNat : Int) = false := by
      have : 48 ≤ s[a].toNat ∧ s[a].toNat ≤ 57 := by simp [digB] at hd; omega
      simp [letB]; omega
    have hF := Lib.hid (show firstT (s.data.toList.drop a) = numberT (s.data.toList.drop a) by unfold firstT; rw [hg, hl, hd]; rfl)
    have hdd : 48 ≤ s[a].toNat ∧ s[a].toNat ≤ 57 := by simp [digB] at hd; omega
    obtain ⟨d1, d2⟩ := hdd
    have e1 : (48 : Int) ≤ (s[a].toNat : Int) := by omega
    have e2 : (s[a].toNat : Int) ≤ 57 := by omega
    have C1 := Lib.hid (fun w => rnumber_any s hs a ha w)
    clear hd hl hg
    go_enter Tryd.func15, Tryd.ntmps15
    go_wp2_with fail
    refine (C1.out _).mono ?_
    rintro e w1 ⟨rfl, hb⟩
    have HR := Lib.hid ((res6_alloc w 49).below hb (by simp))
    have HBL := Lib.hid (((Below.refl _ _).alloc (Nat.le_refl _) _ : Below w.heap.size w (w.alloc (.cells #[.int .i64 0, .int .i64 0, .string ⟨#[]⟩, .int .u64 0, .bool false, .bool false] 49))).trans (hb.mono (by simp)))
    obtain ⟨x0, x1, x2, x3, x4, x5, y0, y1, y2, y3, y4, y5, hlt1⟩ := HR.out
    obtain ⟨t, ht⟩ : ∃ t, rAt a (numberT (s.data.toList.drop a)) = t := ⟨_, rfl⟩
    have HT := Lib.hid ht
    rw [ht]
    unfold rTokV
    clear hb ht
    go_wp2_with fail
    refine bodyPost_ret (v := rTokV t) ?_ rfl ⟨?_, ?_⟩
    · simp [results, Tryd.results15, go_sem, rTokV, x0, x1, x2, x3, x4, x5]
    · rw [hF.out, ← HT.out]; exact oneRes_of a _
    · have hbl := HBL.out
      ((repeat (first | (with_reducible exact hbl) | (with_reducible apply Below.setCell) | (with_reducible apply below_drewN) | (with_reducible apply Below.alloc))) <;> first | omega | (simp; done) | (simp; omega))
  | false =>
    cases hq : ((s[a].toNat : Int) == 39) with
    | true =>
      have h39 : (s[a].toNat : Int) = 39 := by simpa using hq
      have hl : letB (s[a].toNat : Int) = false := by rw [h39]; decide
      have hF := Lib.hid (show firstT (s.data.toList.drop a) = charT (s.data.toList.drop a) by unfold firstT; rw [hg, hl, hd, if_neg (by simp), if_neg (by simp), if_pos h39])
      have C1 := Lib.hid (fun w => quoted_any s hs a ha w)
      have e1 : (s[a].toNat : Int) < 48 := by omega
      clear hd hl hg h39
      go_enter Tryd.func15, Tryd.ntmps15
      go_wp2_with fail
      refine (C1.out _).mono ?_
      rintro e w1 ⟨rfl, hb⟩
      have HR := Lib.hid ((res6_alloc w 49).below hb (by simp))
      have HBL := Lib.hid (((Below.refl _ _).alloc (Nat.le_refl _) _ : Below w.heap.size w (w.alloc (.cells #[.int .i64 0, .int .i64 0, .string ⟨#[]⟩, .int .u64 0, .bool false, .bool false] 49))).trans (hb.mono (by simp)))
      obtain ⟨x0, x1, x2, x3, x4, x5, y0, y1, y2, y3, y4, y5, hlt1⟩ := HR.out
      obtain ⟨t, ht⟩ : ∃ t, rAt a (charT (s.data.toList.drop a)) = t := ⟨_, rfl⟩
      have HT := Lib.hid ht
      rw [ht]
      unfold rTokV
      clear hb ht
      go_wp2_with fail
      refine bodyPost_ret (v := rTokV t) ?_ rfl ⟨?_, ?_⟩
      · simp [results, Tryd.results15, go_sem, rTokV, x0, x1, x2, x3, x4, x5]
      · rw [hF.out, ← HT.out]; exact oneRes_of a _
      · have hbl := HBL.out
        ((repeat (first | (with_reducible exact hbl) | (with_reducible apply Below.setCell) | (with_reducible apply below_drewN) | (with_reducible apply Below.alloc))) <;> first | omega | (simp; done) | (simp; omega))
    | false =>
      have h39 : ¬ (s[a].toNat : Int) = 39 := by simpa using hq
      cases hp : partB (s[a].toNat : Int) with
      | true =>
        have hl : letB (s[a].toNat : Int) = true := by unfold partB at hp; rw [hd, Bool.or_false] at hp; exact hp
        have hF : firstT (s.data.toList.drop a) = nameT (s.data.toList.drop a) := by unfold firstT; rw [hg, if_pos hl]
        rw [hF]
        exact one_name s hs a ha hd hp hq w
      | false =>
        have hl : letB (s[a].toNat : Int) = false := by unfold partB at hp; rw [hd, Bool.or_false] at hp; exact hp
        have hF : firstT (s.data.toList.drop a) = signT (s.data.toList.drop a) := by unfold firstT; rw [hg, hl, hd, hc, if_neg (by simp), if_neg (by simp), if_neg h39, if_neg (by simp)]
        rw [hF]
        exact one_sign s hs a ha hd hp hq w
end Go.Proofs.YtamimaoaafapbaaDoor
