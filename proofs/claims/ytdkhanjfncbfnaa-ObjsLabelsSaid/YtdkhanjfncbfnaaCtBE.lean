import Derived.Test.YtdkhanjfncbfnaaCtK
namespace Go.Proofs.Ytdkhanjfncbfnaa
open Go Go.RowKit
set_option linter.unusedVariables false
set_option linter.unusedSimpArgs false

/-- One struct's four cells. -/
structure R4 (w : World) (b o : Nat) (nm : ByteArray) (fa : Option Addr) (fn fc : Nat) (sz al : Int) : Prop where
  c0 : w.cell? ⟨b, o, none⟩ = some (.string nm)
  c1 : w.cell? ⟨b, o + 1, none⟩ = some (.slice fa fn fc)
  c2 : w.cell? ⟨b, o + 2, none⟩ = some (.int .i64 sz)
  c3 : w.cell? ⟨b, o + 3, none⟩ = some (.int .i64 al)
theorem R4.below {w w' : World} {b o : Nat} {nm : ByteArray} {fa : Option Addr} {fn fc : Nat} {sz al : Int} {lim : Nat} (h : R4 w b o nm fa fn fc sz al) (hb : Below lim w w') (hl : b < lim) : R4 w' b o nm fa fn fc sz al := by
  obtain ⟨h0, h1, h2, h3⟩ := h
  constructor <;> (rw [hb.cell (by exact hl)]; assumption)

/-- A table of n structs (its fields' rows aside). -/
structure TabN (w : World) (tb rb n rc : Nat) (a : Option Addr) (NM : Nat → ByteArray) (FA : Nat → Option Addr) (FN FC : Nat → Nat) (SZ AL : Nat → Int) : Prop where
  t : w.cell? ⟨tb, 0, none⟩ = some (.slice a n rc)
  a : 0 < n → a = some ⟨rb, 0, none⟩
  l : 0 < n → rb < w.heap.size
  r : ∀ k, k < n → R4 w rb (k * 4) (NM k) (FA k) (FN k) (FC k) (SZ k) (AL k)
theorem TabN.below {w w' : World} {tb rb n rc : Nat} {a : Option Addr} {NM : Nat → ByteArray} {FA : Nat → Option Addr} {FN FC : Nat → Nat} {SZ AL : Nat → Int} (h : TabN w tb rb n rc a NM FA FN FC SZ AL) (ht : tb < w.heap.size) (hb : Below w.heap.size w w') : TabN w' tb rb n rc a NM FA FN FC SZ AL := by
  obtain ⟨h0, h1, h2, h3⟩ := h
  exact ⟨by rw [hb.cell (by exact ht)]; exact h0, h1, fun hn => Nat.lt_of_lt_of_le (h2 hn) hb.size, fun k hk => (h3 k hk).below hb (h2 (by omega))⟩

set_option maxHeartbeats 2000000 in
theorem record_in (tb rb n rc : Nat) (hn : n ≤ 1000000) (a : Option Addr) (NM : Nat → ByteArray) (FA : Nat → Option Addr) (FN FC : Nat → Nat) (SZ AL : Nat → Int) (k : Nat) (hk : k < n) (w : World) (h : TabN w tb rb n rc a NM FA FN FC SZ AL) :
    Calls Try.prog 41 #[.pointer (some ⟨tb, 0, none⟩), .int .i64 k] w (TupRes (.tuple #[.agg #[.string (NM k), .slice (FA k) (FN k) (FC k), .int .i64 (SZ k), .int .i64 (AL k)], .bool true]) w) := by
  obtain ⟨h0, h1, h2, h3⟩ := h
  obtain ⟨c0, c1, c2, c3⟩ := h3 k hk
  have ha := h1 (by omega)
  subst ha
  have k0 := World.block_lt_of_cell? w _ h0
  have k1 := World.block_lt_of_cell? w _ c0
  simp at k0 k1
  clear h1 h2 h3
  go_enter Try.func41, Try.ntmps41
  go_wp2_with fail
  have hbw := Below.refl w.heap.size w
  refine bodyPost_ret (v := .tuple #[.agg #[.string (NM k), .slice (FA k) (FN k) (FC k), .int .i64 (SZ k), .int .i64 (AL k)], .bool true]) ?_ rfl ⟨rfl, ?_⟩
  · simp [results, Try.results41, go_sem]
  · ((repeat (first | (with_reducible exact hbw) | (with_reducible apply Below.setCell) | (with_reducible apply Below.alloc))) <;> first | omega | (simp <;> omega))

set_option maxHeartbeats 2000000 in
theorem record_out (tb rb n rc : Nat) (hn : n ≤ 1000000) (a : Option Addr) (NM : Nat → ByteArray) (FA : Nat → Option Addr) (FN FC : Nat → Nat) (SZ AL : Nat → Int) (k : Int) (hk : k < 0 ∨ (n : Int) ≤ k) (w : World) (h : TabN w tb rb n rc a NM FA FN FC SZ AL) :
    Calls Try.prog 41 #[.pointer (some ⟨tb, 0, none⟩), .int .i64 k] w (TupRes (.tuple #[.agg #[.string ⟨#[]⟩, .slice none 0 0, .int .i64 0, .int .i64 0], .bool false]) w) := by
  obtain ⟨h0, h1, h2, h3⟩ := h
  have k0 := World.block_lt_of_cell? w _ h0
  simp at k0
  clear h1 h2 h3
  rcases hk with hk | hk
  all_goals
    go_enter Try.func41, Try.ntmps41
    go_wp2_with fail
    all_goals
      have hbw := Below.refl w.heap.size w
      refine bodyPost_ret (v := .tuple #[.agg #[.string ⟨#[]⟩, .slice none 0 0, .int .i64 0, .int .i64 0], .bool false]) ?_ rfl ⟨rfl, ?_⟩
      · simp [results, Try.results41, go_sem]
      · ((repeat (first | (with_reducible exact hbw) | (with_reducible apply Below.setCell) | (with_reducible apply Below.alloc))) <;> first | omega | (simp <;> omega))

/-- n elements of such a size. -/
def timesM (n size : Int) : Int := if 0 < n ∧ 1099511627776 / n < size then 1099511627776 else n * size
theorem timesM_range (n size : Int) (h0 : 0 ≤ n) (h1 : 0 ≤ size) : 0 ≤ timesM n size ∧ timesM n size ≤ 1099511627776 := by
  unfold timesM
  split
  · omega
  · rename_i h
    refine ⟨Int.mul_nonneg h0 h1, ?_⟩
    by_cases hz : n = 0
    · subst hz; simp
    · have hs : size ≤ 1099511627776 / n := by omega
      have h2 := Int.mul_le_mul_of_nonneg_left hs h0
      have h3 := Int.mul_ediv_self_le (x := 1099511627776) (k := n) hz
      omega

set_option maxHeartbeats 1000000 in
theorem times_any (n size : Int) (h0 : 0 ≤ n) (h1 : 0 ≤ size) (h2 : size ≤ 1099511627776) (h3 : n ≤ 1099511627776) (w : World) :
    Calls Try.prog 39 #[.int .i64 n, .int .i64 size] w fun e w' => e = .returned (.int .i64 (timesM n size)) ∧ w = w' := by
  obtain ⟨t0, t1⟩ := timesM_range n size h0 h1
  by_cases hz : n = 0
  · subst hz
    go_enter Try.func39, Try.ntmps39
    go_wp2
    all_goals
      go_ret
      exact ⟨by simp_all [timesM], rfl⟩
  · have hp : 0 < n := by omega
    have hq : ¬ n = 0 := hz
    by_cases hb : 1099511627776 / n < size
    · have HT := Lib.hid (show timesM n size = 1099511627776 by unfold timesM; rw [if_pos ⟨hp, hb⟩])
      go_enter Try.func39, Try.ntmps39
      go_wp2
      all_goals
        go_ret
        exact ⟨by first | (rw [HT.out]; done) | (rw [HT.out]; rfl), rfl⟩
    · have HT := Lib.hid (show timesM n size = n * size by unfold timesM; rw [if_neg (by omega)])
      have t2 : n * size ≤ 1099511627776 := by rw [← HT.out]; exact t1
      have t3 : 0 ≤ n * size := by rw [← HT.out]; exact t0
      go_enter Try.func39, Try.ntmps39
      go_wp2
      all_goals
        go_ret
        exact ⟨by first | (rw [HT.out]; done) | (rw [HT.out]; rfl), rfl⟩

open Go Go.RowKit
set_option linter.unusedVariables false
set_option linter.unusedSimpArgs false

/-- A type's size, over a table's structs. -/
def sizeM (n : Nat) (SZ : Nat → Int) : Ty → Int
  | .void => 0
  | .int k _ _ => k
  | .ptr _ => 8
  | .arr t m => timesM m (sizeM n SZ t)
  | .st k => if 0 ≤ k ∧ k < n then SZ k.toNat else 0
def alignM (n : Nat) (AL : Nat → Int) : Ty → Int
  | .void => 1
  | .int k _ _ => k
  | .ptr _ => 8
  | .arr t _ => alignM n AL t
  | .st k => if 0 ≤ k ∧ k < n then AL k.toNat else 1
/-- What the statements' types keep to. -/
def OkT : Ty → Prop
  | .int k _ _ => 1 ≤ k ∧ k ≤ 8
  | .arr t m => 0 ≤ m ∧ m ≤ 1000000 ∧ OkT t
  | _ => True
theorem sizeM_range (n : Nat) (SZ : Nat → Int) (hs : ∀ k, k < n → 0 ≤ SZ k ∧ SZ k ≤ 1099511627776) : ∀ t, OkT t → 0 ≤ sizeM n SZ t ∧ sizeM n SZ t ≤ 1099511627776 := by
  intro t
  induction t with
  | void => intro _; exact ⟨by simp [sizeM], by simp [sizeM]⟩
  | int k b c => intro h; obtain ⟨h1, h2⟩ := h; exact ⟨by simp [sizeM]; omega, by simp [sizeM]; omega⟩
  | ptr t ih => intro _; exact ⟨by simp [sizeM], by simp [sizeM]⟩
  | arr t m ih => intro h; obtain ⟨h1, h2, h3⟩ := h; exact timesM_range m _ h1 (ih h3).1
  | st k =>
    intro _
    unfold sizeM
    split
    · rename_i h; exact hs _ (by omega)
    · exact ⟨by decide, by decide⟩

set_option maxHeartbeats 1000000 in
theorem size_ptr (tab : Value) (t : Ty) (el : Option Addr) (w : World) :
    Calls Try.prog 16 #[tab, tyV (.ptr t) el] w (CIntRes 8 w) := by
  rw [tyV_ptr]
  go_enter Try.func16, Try.ntmps16
  go_wp2_with fail
  go_ret
  exact ⟨rfl, (Below.refl _ _).alloc (Nat.le_refl _) _⟩

set_option maxHeartbeats 1000000 in
theorem size_void (tab : Value) (w : World) :
    Calls Try.prog 16 #[tab, tyV .void none] w (CIntRes 0 w) := by
  rw [show tyV .void none = .agg #[.int .i64 0, .int .i64 0, .bool false, .bool false, .pointer none, .int .i64 0, .int .i64 0, .slice none 0 0, .pointer none] from rfl]
  go_enter Try.func16, Try.ntmps16
  go_wp2_with fail
  go_ret
  exact ⟨rfl, (Below.refl _ _).alloc (Nat.le_refl _) _⟩

set_option maxHeartbeats 2000000 in
theorem size_st_in (tb rb n rc : Nat) (hn : n ≤ 1000000) (a : Option Addr) (NM : Nat → ByteArray) (FA : Nat → Option Addr) (FN FC : Nat → Nat) (SZ AL : Nat → Int) (k : Nat) (hk : k < n) (w : World) (h : TabN w tb rb n rc a NM FA FN FC SZ AL) :
    Calls Try.prog 16 #[.pointer (some ⟨tb, 0, none⟩), tyV (.st k) none] w (CIntRes (SZ k) w) := by
  have H := Lib.hid h
  have k0 := World.block_lt_of_cell? w _ h.t
  simp at k0
  clear h
  have HC := Lib.hid (fun w (h : TabN w tb rb n rc a NM FA FN FC SZ AL) => record_in tb rb n rc hn a NM FA FN FC SZ AL k hk w h)
  rw [show tyV (.st k) none = .agg #[.int .i64 4, .int .i64 0, .bool false, .bool false, .pointer none, .int .i64 0, .int .i64 k, .slice none 0 0, .pointer none] from rfl]
  go_enter Try.func16, Try.ntmps16
  go_wp2_with fail
  refine (HC.out _ (H.out.below k0 ((Below.refl w.heap.size w).alloc (Nat.le_refl _) _))).mono ?_
  rintro e w1 ⟨rfl, hb⟩
  have hB := Lib.hid (((Below.refl w.heap.size w).alloc (Nat.le_refl _) _).trans (hb.mono (by simp)))
  have hz := hb.size
  simp at hz
  clear hb
  go_wp2_with fail
  go_ret
  exact ⟨rfl, hB.out.alloc (by omega) _⟩

set_option maxHeartbeats 2000000 in
theorem size_st_out (tb rb n rc : Nat) (hn : n ≤ 1000000) (a : Option Addr) (NM : Nat → ByteArray) (FA : Nat → Option Addr) (FN FC : Nat → Nat) (SZ AL : Nat → Int) (k : Int) (hk : k < 0 ∨ (n : Int) ≤ k) (w : World) (h : TabN w tb rb n rc a NM FA FN FC SZ AL) :
    Calls Try.prog 16 #[.pointer (some ⟨tb, 0, none⟩), tyV (.st k) none] w (CIntRes (0) w) := by
  have H := Lib.hid h
  have k0 := World.block_lt_of_cell? w _ h.t
  simp at k0
  clear h
  have HC := Lib.hid (fun w (h : TabN w tb rb n rc a NM FA FN FC SZ AL) => record_out tb rb n rc hn a NM FA FN FC SZ AL k hk w h)
  rw [show tyV (.st k) none = .agg #[.int .i64 4, .int .i64 0, .bool false, .bool false, .pointer none, .int .i64 0, .int .i64 k, .slice none 0 0, .pointer none] from rfl]
  go_enter Try.func16, Try.ntmps16
  go_wp2_with fail
  refine (HC.out _ (H.out.below k0 ((Below.refl w.heap.size w).alloc (Nat.le_refl _) _))).mono ?_
  rintro e w1 ⟨rfl, hb⟩
  have hB := Lib.hid (((Below.refl w.heap.size w).alloc (Nat.le_refl _) _).trans (hb.mono (by simp)))
  have hz := hb.size
  simp at hz
  clear hb
  go_wp2_with fail
  go_ret
  exact ⟨rfl, hB.out.alloc (by omega) _⟩

set_option maxHeartbeats 1000000 in
theorem align_ptr (tab : Value) (t : Ty) (el : Option Addr) (w : World) :
    Calls Try.prog 53 #[tab, tyV (.ptr t) el] w (CIntRes 8 w) := by
  rw [tyV_ptr]
  go_enter Try.func53, Try.ntmps53
  go_wp2_with fail
  go_ret
  exact ⟨rfl, (Below.refl _ _).alloc (Nat.le_refl _) _⟩

set_option maxHeartbeats 1000000 in
theorem align_void (tab : Value) (w : World) :
    Calls Try.prog 53 #[tab, tyV .void none] w (CIntRes 1 w) := by
  rw [show tyV .void none = .agg #[.int .i64 0, .int .i64 0, .bool false, .bool false, .pointer none, .int .i64 0, .int .i64 0, .slice none 0 0, .pointer none] from rfl]
  go_enter Try.func53, Try.ntmps53
  go_wp2_with fail
  go_ret
  exact ⟨rfl, (Below.refl _ _).alloc (Nat.le_refl _) _⟩

set_option maxHeartbeats 2000000 in
theorem align_st_in (tb rb n rc : Nat) (hn : n ≤ 1000000) (a : Option Addr) (NM : Nat → ByteArray) (FA : Nat → Option Addr) (FN FC : Nat → Nat) (SZ AL : Nat → Int) (k : Nat) (hk : k < n) (w : World) (h : TabN w tb rb n rc a NM FA FN FC SZ AL) :
    Calls Try.prog 53 #[.pointer (some ⟨tb, 0, none⟩), tyV (.st k) none] w (CIntRes (AL k) w) := by
  have H := Lib.hid h
  have k0 := World.block_lt_of_cell? w _ h.t
  simp at k0
  clear h
  have HC := Lib.hid (fun w (h : TabN w tb rb n rc a NM FA FN FC SZ AL) => record_in tb rb n rc hn a NM FA FN FC SZ AL k hk w h)
  rw [show tyV (.st k) none = .agg #[.int .i64 4, .int .i64 0, .bool false, .bool false, .pointer none, .int .i64 0, .int .i64 k, .slice none 0 0, .pointer none] from rfl]
  go_enter Try.func53, Try.ntmps53
  go_wp2_with fail
  refine (HC.out _ (H.out.below k0 ((Below.refl w.heap.size w).alloc (Nat.le_refl _) _))).mono ?_
  rintro e w1 ⟨rfl, hb⟩
  have hB := Lib.hid (((Below.refl w.heap.size w).alloc (Nat.le_refl _) _).trans (hb.mono (by simp)))
  have hz := hb.size
  simp at hz
  clear hb
  go_wp2_with fail
  go_ret
  exact ⟨rfl, hB.out.alloc (by omega) _⟩

set_option maxHeartbeats 2000000 in
theorem align_st_out (tb rb n rc : Nat) (hn : n ≤ 1000000) (a : Option Addr) (NM : Nat → ByteArray) (FA : Nat → Option Addr) (FN FC : Nat → Nat) (SZ AL : Nat → Int) (k : Int) (hk : k < 0 ∨ (n : Int) ≤ k) (w : World) (h : TabN w tb rb n rc a NM FA FN FC SZ AL) :
    Calls Try.prog 53 #[.pointer (some ⟨tb, 0, none⟩), tyV (.st k) none] w (CIntRes (1) w) := by
  have H := Lib.hid h
  have k0 := World.block_lt_of_cell? w _ h.t
  simp at k0
  clear h
  have HC := Lib.hid (fun w (h : TabN w tb rb n rc a NM FA FN FC SZ AL) => record_out tb rb n rc hn a NM FA FN FC SZ AL k hk w h)
  rw [show tyV (.st k) none = .agg #[.int .i64 4, .int .i64 0, .bool false, .bool false, .pointer none, .int .i64 0, .int .i64 k, .slice none 0 0, .pointer none] from rfl]
  go_enter Try.func53, Try.ntmps53
  go_wp2_with fail
  refine (HC.out _ (H.out.below k0 ((Below.refl w.heap.size w).alloc (Nat.le_refl _) _))).mono ?_
  rintro e w1 ⟨rfl, hb⟩
  have hB := Lib.hid (((Below.refl w.heap.size w).alloc (Nat.le_refl _) _).trans (hb.mono (by simp)))
  have hz := hb.size
  simp at hz
  clear hb
  go_wp2_with fail
  go_ret
  exact ⟨rfl, hB.out.alloc (by omega) _⟩

set_option maxHeartbeats 4000000 in
theorem size_arr (tb rb n rc : Nat) (hn : n ≤ 1000000) (a : Option Addr) (NM : Nat → ByteArray) (FA : Nat → Option Addr) (FN FC : Nat → Nat) (SZ AL : Nat → Int) (hs : ∀ k, k < n → 0 ≤ SZ k ∧ SZ k ≤ 1099511627776) (t : Ty) (m : Int) (hm0 : 0 ≤ m) (hm1 : m ≤ 1000000) (ok : OkT t)
    (ih : ∀ (el : Option Addr) (w : World), TabN w tb rb n rc a NM FA FN FC SZ AL → ElAt w 0 w.heap.size t el → Calls Try.prog 16 #[.pointer (some ⟨tb, 0, none⟩), tyV t el] w (CIntRes (sizeM n SZ t) w))
    (el : Option Addr) (w : World) (h : TabN w tb rb n rc a NM FA FN FC SZ AL) (he : ElAt w 0 w.heap.size (.arr t m) el) :
    Calls Try.prog 16 #[.pointer (some ⟨tb, 0, none⟩), tyV (.arr t m) el] w (CIntRes (sizeM n SZ (.arr t m)) w) := by
  obtain ⟨b, e0, rfl, hb0, hb1, hc, he'⟩ := he
  obtain ⟨z0, z1⟩ := sizeM_range n SZ hs t ok
  have HZ := Lib.hid (And.intro z0 z1)
  have k0 := World.block_lt_of_cell? w _ h.t
  simp at k0
  have HI := Lib.hid ih
  have HT0 := Lib.hid h
  have HTB := Lib.hid k0
  have HC0 := Lib.hid hc
  have HLT := Lib.hid hb1
  have HE0 := Lib.hid he'
  rw [show sizeM n SZ (.arr t m) = timesM m (sizeM n SZ t) from rfl]
  clear ih h k0 hc hb0 hb1 he' z0 z1 hs ok
  generalize sizeM n SZ t = sz at HZ HI
  rw [tyV_arr]
  go_enter Try.func16, Try.ntmps16
  go_wp2_with fail
  generalize hW : w.alloc (.cells #[.int .i64 3, .int .i64 0, .bool false, .bool false, .pointer (some ⟨b, 0, none⟩), .int .i64 m, .int .i64 0, .slice none 0 0, .pointer none] 57) = W
  have hbW : Below w.heap.size w W := by rw [← hW]; exact (Below.refl _ _).alloc (Nat.le_refl _) _
  have hsW : W.heap.size = w.heap.size + 1 := by rw [← hW]; simp
  have p4 : W.cell? ⟨w.heap.size, 4, none⟩ = some (.pointer (some ⟨b, 0, none⟩)) := by rw [← hW]; simp
  have p5 : W.cell? ⟨w.heap.size, 5, none⟩ = some (.int .i64 m) := by rw [← hW]; simp
  have HT := Lib.hid (HT0.out.below HTB.out hbW)
  have HC := Lib.hid (HC0.out.below hbW HLT.out)
  have HE := Lib.hid ((HE0.out.below hbW (Nat.le_refl _)).mono (Nat.le_refl _) hbW.size)
  have HBW := Lib.hid hbW
  have HSW := Lib.hid hsW
  clear hW hbW hsW
  go_region_held3 (fun w' => w'.cell? ⟨w.heap.size, 4, none⟩ = some (.pointer (some ⟨b, 0, none⟩)) ∧ w'.cell? ⟨w.heap.size, 5, none⟩ = some (.int .i64 m)) (go_keep)
    (first
      | (go_at_call 40
         (with_reducible refine (target_any b t e0 _ (HC.out.below ((Below.refl W.heap.size W).drew) (by have := HLT.out; have := HSW.out; omega))).mono ?_)
         rintro e w1 ⟨rfl, hb1⟩
         have HB1 : Hid (Below W.heap.size W w1) := Lib.hid ((Below.refl _ _).drew.trans hb1)
         have p41 : w1.cell? ⟨w.heap.size, 4, none⟩ = some (.pointer (some ⟨b, 0, none⟩)) := by rw [HB1.out.cell (by simp [HSW.out])]; exact p4
         have p51 : w1.cell? ⟨w.heap.size, 5, none⟩ = some (.int .i64 m) := by rw [HB1.out.cell (by simp [HSW.out])]; exact p5
         clear hb1)
      | (go_at_call 16
         (with_reducible refine (HI.out e0 _ (HT.out.below (by have := HTB.out; have := HSW.out; omega) HB1.out) ((HE.out.below HB1.out (Nat.le_refl _)).mono (Nat.le_refl _) HB1.out.size)).mono ?_)
         rintro e w2 ⟨rfl, hb2⟩
         have HB2 : Hid (Below W.heap.size W w2) := Lib.hid (HB1.out.trans (hb2.mono HB1.out.size))
         have p42 : w2.cell? ⟨w.heap.size, 4, none⟩ = some (.pointer (some ⟨b, 0, none⟩)) := by rw [HB2.out.cell (by simp [HSW.out])]; exact p4
         have p52 : w2.cell? ⟨w.heap.size, 5, none⟩ = some (.int .i64 m) := by rw [HB2.out.cell (by simp [HSW.out])]; exact p5
         clear hb2)
      | (go_at_call 39
         (with_reducible refine (times_any m sz hm0 HZ.out.1 HZ.out.2 (by omega) _).mono ?_)
         rintro e w3 ⟨rfl, rfl⟩))
  go_wp2_with fail
  go_ret
  exact ⟨rfl, HBW.out.trans (HB2.out.mono (by have := HSW.out; omega))⟩

set_option maxHeartbeats 4000000 in
theorem align_arr (tb rb n rc : Nat) (hn : n ≤ 1000000) (a : Option Addr) (NM : Nat → ByteArray) (FA : Nat → Option Addr) (FN FC : Nat → Nat) (SZ AL : Nat → Int) (t : Ty) (m : Int)
    (ih : ∀ (el : Option Addr) (w : World), TabN w tb rb n rc a NM FA FN FC SZ AL → ElAt w 0 w.heap.size t el → Calls Try.prog 53 #[.pointer (some ⟨tb, 0, none⟩), tyV t el] w (CIntRes (alignM n AL t) w))
    (el : Option Addr) (w : World) (h : TabN w tb rb n rc a NM FA FN FC SZ AL) (he : ElAt w 0 w.heap.size (.arr t m) el) :
    Calls Try.prog 53 #[.pointer (some ⟨tb, 0, none⟩), tyV (.arr t m) el] w (CIntRes (alignM n AL (.arr t m)) w) := by
  obtain ⟨b, e0, rfl, hb0, hb1, hc, he'⟩ := he
  have k0 := World.block_lt_of_cell? w _ h.t
  simp at k0
  have HI := Lib.hid ih
  have HT0 := Lib.hid h
  have HTB := Lib.hid k0
  have HC0 := Lib.hid hc
  have HLT := Lib.hid hb1
  have HE0 := Lib.hid he'
  rw [show alignM n AL (.arr t m) = alignM n AL t from rfl]
  clear ih h k0 hc hb0 hb1 he'
  rw [tyV_arr]
  go_enter Try.func53, Try.ntmps53
  go_wp2_with fail
  generalize hW : w.alloc (.cells #[.int .i64 3, .int .i64 0, .bool false, .bool false, .pointer (some ⟨b, 0, none⟩), .int .i64 m, .int .i64 0, .slice none 0 0, .pointer none] 57) = W
  have hbW : Below w.heap.size w W := by rw [← hW]; exact (Below.refl _ _).alloc (Nat.le_refl _) _
  have hsW : W.heap.size = w.heap.size + 1 := by rw [← hW]; simp
  have p4 : W.cell? ⟨w.heap.size, 4, none⟩ = some (.pointer (some ⟨b, 0, none⟩)) := by rw [← hW]; simp
  have p5 : W.cell? ⟨w.heap.size, 5, none⟩ = some (.int .i64 m) := by rw [← hW]; simp
  have HT := Lib.hid (HT0.out.below HTB.out hbW)
  have HC := Lib.hid (HC0.out.below hbW HLT.out)
  have HE := Lib.hid ((HE0.out.below hbW (Nat.le_refl _)).mono (Nat.le_refl _) hbW.size)
  have HBW := Lib.hid hbW
  have HSW := Lib.hid hsW
  clear hW hbW hsW
  (with_reducible refine (target_any b t e0 _ HC.out).mono ?_)
  rintro e w1 ⟨rfl, hb1⟩
  have HB1 := Lib.hid hb1
  clear hb1
  go_wp2_with fail
  (with_reducible refine (HI.out e0 _ (HT.out.below (by have := HTB.out; have := HSW.out; omega) HB1.out) ((HE.out.below HB1.out (Nat.le_refl _)).mono (Nat.le_refl _) HB1.out.size)).mono ?_)
  rintro e w2 ⟨rfl, hb2⟩
  have HB2 := Lib.hid (HB1.out.trans (hb2.mono HB1.out.size))
  clear hb2
  go_wp2_with fail
  go_ret
  exact ⟨rfl, HBW.out.trans (HB2.out.mono (by have := HSW.out; omega))⟩

theorem size_any (tb rb n rc : Nat) (hn : n ≤ 1000000) (a : Option Addr) (NM : Nat → ByteArray) (FA : Nat → Option Addr) (FN FC : Nat → Nat) (SZ AL : Nat → Int) (hs : ∀ k, k < n → 0 ≤ SZ k ∧ SZ k ≤ 1099511627776) (t : Ty) : OkT t → ∀ (el : Option Addr) (w : World), TabN w tb rb n rc a NM FA FN FC SZ AL → ElAt w 0 w.heap.size t el → Calls Try.prog 16 #[.pointer (some ⟨tb, 0, none⟩), tyV t el] w (CIntRes (sizeM n SZ t) w) := by
  induction t with
  | void => intro hok el w h he; obtain rfl : el = none := he; exact size_void _ w
  | int k b c => intro hok el w h he; obtain rfl : el = none := he; exact size_int _ k b c w
  | ptr t ih => intro hok el w h he; exact size_ptr _ t el w
  | arr t m ih => intro hok el w h he; exact size_arr tb rb n rc hn a NM FA FN FC SZ AL hs t m hok.1 hok.2.1 hok.2.2 (ih hok.2.2) el w h he
  | st k =>
    intro hok el w h he
    obtain rfl : el = none := he
    by_cases hk : 0 ≤ k ∧ k < n
    · obtain ⟨j, rfl⟩ : ∃ j : Nat, k = j := ⟨k.toNat, by omega⟩
      rw [show sizeM n SZ (.st (j : Int)) = SZ j from by unfold sizeM; rw [if_pos hk]; rfl]
      exact size_st_in tb rb n rc hn a NM FA FN FC SZ AL j (by omega) w h
    · rw [show sizeM n SZ (.st k) = 0 from by unfold sizeM; rw [if_neg hk]]
      exact size_st_out tb rb n rc hn a NM FA FN FC SZ AL k (by omega) w h

theorem align_any (tb rb n rc : Nat) (hn : n ≤ 1000000) (a : Option Addr) (NM : Nat → ByteArray) (FA : Nat → Option Addr) (FN FC : Nat → Nat) (SZ AL : Nat → Int) (t : Ty) : ∀ (el : Option Addr) (w : World), TabN w tb rb n rc a NM FA FN FC SZ AL → ElAt w 0 w.heap.size t el → Calls Try.prog 53 #[.pointer (some ⟨tb, 0, none⟩), tyV t el] w (CIntRes (alignM n AL t) w) := by
  induction t with
  | void => intro el w h he; obtain rfl : el = none := he; exact align_void _ w
  | int k b c => intro el w h he; obtain rfl : el = none := he; exact align_int _ k b c w
  | ptr t ih => intro el w h he; exact align_ptr _ t el w
  | arr t m ih => intro el w h he; exact align_arr tb rb n rc hn a NM FA FN FC SZ AL t m ih el w h he
  | st k =>
    intro el w h he
    obtain rfl : el = none := he
    by_cases hk : 0 ≤ k ∧ k < n
    · obtain ⟨j, rfl⟩ : ∃ j : Nat, k = j := ⟨k.toNat, by omega⟩
      rw [show alignM n AL (.st (j : Int)) = AL j from by unfold alignM; rw [if_pos hk]; rfl]
      exact align_st_in tb rb n rc hn a NM FA FN FC SZ AL j (by omega) w h
    · rw [show alignM n AL (.st k) = 1 from by unfold alignM; rw [if_neg hk]]
      exact align_st_out tb rb n rc hn a NM FA FN FC SZ AL k (by omega) w h

open Go Go.RowKit
set_option linter.unusedVariables false
set_option linter.unusedSimpArgs false

set_option maxHeartbeats 4000000 in
theorem find_yes (tb rb n rc : Nat) (hn : n ≤ 1000000) (a : Option Addr) (NM : Nat → ByteArray) (FA : Nat → Option Addr) (FN FC : Nat → Nat) (SZ AL : Nat → Int) (nm : ByteArray) (j : Nat) (hj : j < n) (hjn : ((NM j).toList == nm.toList) = true) (hne : ∀ k, k < j → ((NM k).toList == nm.toList) = false) (w : World) (h : TabN w tb rb n rc a NM FA FN FC SZ AL) :
    Calls Try.prog 37 #[.pointer (some ⟨tb, 0, none⟩), .string nm] w (TupRes (.tuple #[.int .i64 j, .bool true]) w) := by
  have k0 := World.block_lt_of_cell? w _ h.t
  simp at k0
  have h0 := h.t
  have HA := Lib.hid h.a
  have HL := Lib.hid h.l
  have HR := Lib.hid h.r
  have HN := Lib.hid hne
  have HJ := Lib.hid hjn
  clear hne h hjn
  go_enter Try.func37, Try.ntmps37
  go_wp2_with fail
  go_loopw [15] (fun vi wr => ∃ k : Nat, vi = .int .i64 k ∧ k ≤ j ∧ Below w.heap.size w wr) (fun vi _ => n - (intOf vi).toNat)
  case atStart => exact ⟨0, rfl, by omega, Below.refl _ _⟩
  case round =>
    obtain ⟨k, rfl, hk, hb⟩ := hrel
    have HB := Lib.hid hb
    by_cases hlt : k < j
    · have hkn : k < n := by omega
      have ha := HA.out (by omega)
      subst ha
      obtain ⟨c0, c1, c2, c3⟩ := (HR.out k hkn).below hb (HL.out (by omega))
      have he := HN.out k hlt
      clear hb h0
      go_wp2
      go_roundw
      case rel => exact ⟨k + 1, by go_num, by omega, HB.out.alloc HB.out.size _⟩
      case measure => simp [intOf]; omega
    · obtain rfl : j = k := by omega
      have ha := HA.out (by omega)
      subst ha
      obtain ⟨c0, c1, c2, c3⟩ := (HR.out j hj).below hb (HL.out (by omega))
      have he := HJ.out
      clear hb h0
      go_wp2
      go_ret2
      exact ⟨rfl, HB.out.alloc HB.out.size _⟩

set_option maxHeartbeats 4000000 in
theorem find_no (tb rb n rc : Nat) (hn : n ≤ 1000000) (a : Option Addr) (NM : Nat → ByteArray) (FA : Nat → Option Addr) (FN FC : Nat → Nat) (SZ AL : Nat → Int) (nm : ByteArray) (hne : ∀ k, k < n → ((NM k).toList == nm.toList) = false) (w : World) (h : TabN w tb rb n rc a NM FA FN FC SZ AL) :
    Calls Try.prog 37 #[.pointer (some ⟨tb, 0, none⟩), .string nm] w (TupRes (.tuple #[.int .i64 0, .bool false]) w) := by
  have k0 := World.block_lt_of_cell? w _ h.t
  simp at k0
  have h0 := h.t
  have HA := Lib.hid h.a
  have HL := Lib.hid h.l
  have HR := Lib.hid h.r
  have HN := Lib.hid hne
  skip
  clear hne h
  go_enter Try.func37, Try.ntmps37
  go_wp2_with fail
  go_loopw [15] (fun vi wr => ∃ k : Nat, vi = .int .i64 k ∧ k ≤ n ∧ Below w.heap.size w wr) (fun vi _ => n - (intOf vi).toNat)
  case atStart => exact ⟨0, rfl, by omega, Below.refl _ _⟩
  case round =>
    obtain ⟨k, rfl, hk, hb⟩ := hrel
    have HB := Lib.hid hb
    by_cases hlt : k < n
    · have hkn : k < n := by omega
      have ha := HA.out (by omega)
      subst ha
      obtain ⟨c0, c1, c2, c3⟩ := (HR.out k hkn).below hb (HL.out (by omega))
      have he := HN.out k hlt
      clear hb h0
      go_wp2
      go_roundw
      case rel => exact ⟨k + 1, by go_num, by omega, HB.out.alloc HB.out.size _⟩
      case measure => simp [intOf]; omega
    · obtain rfl : k = n := by omega
      clear hb h0
      go_wp2
      go_ret2
      exact ⟨rfl, HB.out⟩

open Go Go.RowKit
set_option linter.unusedVariables false
set_option linter.unusedSimpArgs false

/-- A field's eleven cells, of any type. -/
structure GCells (w : World) (b o : Nat) (nm : ByteArray) (t : Ty) (el : Option Addr) (at_ : Int) : Prop where
  s : w.cell? ⟨b, o, none⟩ = some (.string nm)
  c0 : w.cell? ⟨b, o + 1, none⟩ = some (.int .i64 t.kind)
  c1 : w.cell? ⟨b, o + 2, none⟩ = some (.int .i64 t.size)
  c2 : w.cell? ⟨b, o + 3, none⟩ = some (.bool t.sg)
  c3 : w.cell? ⟨b, o + 4, none⟩ = some (.bool t.sc)
  c4 : w.cell? ⟨b, o + 5, none⟩ = some (.pointer el)
  c5 : w.cell? ⟨b, o + 6, none⟩ = some (.int .i64 t.len)
  c6 : w.cell? ⟨b, o + 7, none⟩ = some (.int .i64 t.num)
  c7 : w.cell? ⟨b, o + 8, none⟩ = some (.slice none 0 0)
  c8 : w.cell? ⟨b, o + 9, none⟩ = some (.pointer none)
  a : w.cell? ⟨b, o + 10, none⟩ = some (.int .i64 at_)
theorem GCells.below {w w' : World} {b o : Nat} {nm : ByteArray} {t : Ty} {el : Option Addr} {at_ : Int} {lim : Nat} (h : GCells w b o nm t el at_) (hb : Below lim w w') (hl : b < lim) : GCells w' b o nm t el at_ := by
  obtain ⟨h0, h1, h2, h3, h4, h5, h6, h7, h8, h9, h10⟩ := h
  constructor <;> (rw [hb.cell (by exact hl)]; assumption)
def fldT (nm : ByteArray) (t : Ty) (el : Option Addr) (at_ : Int) : Value := .agg #[.string nm, .int .i64 t.kind, .int .i64 t.size, .bool t.sg, .bool t.sc, .pointer el, .int .i64 t.len, .int .i64 t.num, .slice none 0 0, .pointer none, .int .i64 at_]
/-- A struct's fields, one behind the other. -/
def GRow (w : World) (g n : Nat) (NM : Nat → ByteArray) (TY : Nat → Ty) (EL : Nat → Option Addr) (AT : Nat → Int) : Prop := ∀ k, k < n → GCells w g (k * 11) (NM k) (TY k) (EL k) (AT k)
theorem GRow.below {w w' : World} {g n : Nat} {NM : Nat → ByteArray} {TY : Nat → Ty} {EL : Nat → Option Addr} {AT : Nat → Int} {lim : Nat} (h : GRow w g n NM TY EL AT) (hb : Below lim w w') (hl : g < lim) : GRow w' g n NM TY EL AT :=
  fun k hk => (h k hk).below hb hl

set_option maxHeartbeats 2000000 in
theorem fieldOfT_none (g c n : Nat) (hn : n ≤ 1000000) (NM : Nat → ByteArray) (TY : Nat → Ty) (EL : Nat → Option Addr) (AT : Nat → Int) (nm : ByteArray) (w : World) (hg : g < w.heap.size) (hr : GRow w g n NM TY EL AT)
    (hne : ∀ k, k < n → ((NM k).toList == nm.toList) = false) :
    Calls Try.prog 55 #[.slice (some ⟨g, 0, none⟩) n c, .string nm] w (TupRes (.tuple #[fld0, .bool false]) w) := by
  have HR := Lib.hid hr
  have HN := Lib.hid hne
  clear hr hne
  go_enter Try.func55, Try.ntmps55
  go_wp2_with fail
  generalize hW : w.alloc (.cells #[.string ⟨#[]⟩, .int .i64 0, .int .i64 0, .bool false, .bool false, .pointer none, .int .i64 0, .int .i64 0, .slice none 0 0, .pointer none, .int .i64 0] 61) = W
  have hB0 : Below w.heap.size w W := by rw [← hW]; exact (Below.refl _ _).alloc (Nat.le_refl _) _
  have hsW : W.heap.size = w.heap.size + 1 := by rw [← hW]; simp
  have HB0 := Lib.hid hB0
  have HSW := Lib.hid hsW
  have hrc : RCells W w.heap.size := by rw [← hW]; constructor <;> simp
  have HRC := Lib.hid hrc
  clear hB0 hsW hrc
  go_loopw [10] (fun vi wr => ∃ k : Nat, vi = .int .i64 k ∧ k ≤ n ∧ Below W.heap.size W wr) (fun vi _ => n - (intOf vi).toNat)
  case atStart => exact ⟨0, rfl, by omega, Below.refl _ _⟩
  case round =>
    obtain ⟨k, rfl, hk, hb⟩ := hrel
    have HB := Lib.hid hb
    by_cases hlt : k < n
    · obtain ⟨h0, h1, h2, h3, h4, h5, h6, h7, h8, h9, h10⟩ := ((HR.out k hlt).below HB0.out hg).below hb (by have := HSW.out; omega)
      have he := HN.out k hlt
      clear hb hW
      go_wp2
      go_roundw
      case rel => exact ⟨k + 1, by go_num, by omega, HB.out.alloc HB.out.size _⟩
      case measure => simp [intOf]; omega
    · obtain ⟨h0, h1, h2, h3, h4, h5, h6, h7, h8, h9, h10, f0, f1, f2, f3, f4, f5, f6, f7, f8, f9, f10⟩ := HRC.out.below hb (by have := HSW.out; omega)
      have hz : w.heap.size < wr.heap.size := by have := hb.size; have := HSW.out; omega
      have hbw := HB0.out.trans (hb.mono (by have := HSW.out; omega))
      have HBW := Lib.hid hbw
      clear hb hW hbw
      go_wp2
      have hbw := HBW.out
      refine bodyPost_ret (v := .tuple #[fld0, .bool false]) ?_ rfl ⟨rfl, ?_⟩
      · unfold fld0; simp [results, Try.results55, go_sem, h0, h1, h2, h3, h4, h5, h6, h7, h8, h9, h10]
      · ((repeat (first | (with_reducible exact hbw) | (with_reducible apply Below.setCell) | (with_reducible apply Below.alloc))) <;> first | omega | (simp <;> omega))

set_option maxHeartbeats 2000000 in
theorem fieldOfT_found (g c n m : Nat) (hn : n ≤ 1000000) (hm : m < n) (NM : Nat → ByteArray) (TY : Nat → Ty) (EL : Nat → Option Addr) (AT : Nat → Int) (w : World) (hg : g < w.heap.size) (hr : GRow w g n NM TY EL AT)
    (hne : ∀ k, k < m → ((NM k).toList == (NM m).toList) = false) :
    Calls Try.prog 55 #[.slice (some ⟨g, 0, none⟩) n c, .string (NM m)] w (TupRes (.tuple #[fldT (NM m) (TY m) (EL m) (AT m), .bool true]) w) := by
  have HR := Lib.hid hr
  have HN := Lib.hid hne
  clear hr hne
  go_enter Try.func55, Try.ntmps55
  go_wp2_with fail
  generalize hW : w.alloc (.cells #[.string ⟨#[]⟩, .int .i64 0, .int .i64 0, .bool false, .bool false, .pointer none, .int .i64 0, .int .i64 0, .slice none 0 0, .pointer none, .int .i64 0] 61) = W
  have hB0 : Below w.heap.size w W := by rw [← hW]; exact (Below.refl _ _).alloc (Nat.le_refl _) _
  have hsW : W.heap.size = w.heap.size + 1 := by rw [← hW]; simp
  have HB0 := Lib.hid hB0
  have HSW := Lib.hid hsW
  have hrc : RCells W w.heap.size := by rw [← hW]; constructor <;> simp
  have HRC := Lib.hid hrc
  clear hB0 hsW hrc
  go_loopw [10] (fun vi wr => ∃ k : Nat, vi = .int .i64 k ∧ k ≤ m ∧ Below W.heap.size W wr) (fun vi _ => n - (intOf vi).toNat)
  case atStart => exact ⟨0, rfl, by omega, Below.refl _ _⟩
  case round =>
    obtain ⟨k, rfl, hk, hb⟩ := hrel
    have HB := Lib.hid hb
    have hkn : k < n := by omega
    by_cases hlt : k < m
    · obtain ⟨h0, h1, h2, h3, h4, h5, h6, h7, h8, h9, h10⟩ := ((HR.out k hkn).below HB0.out hg).below hb (by have := HSW.out; omega)
      have he := HN.out k hlt
      clear hb hW
      go_wp2
      go_roundw
      case rel => exact ⟨k + 1, by go_num, by omega, HB.out.alloc HB.out.size _⟩
      case measure => simp [intOf]; omega
    · obtain rfl : k = m := by omega
      obtain ⟨q0, q1, q2, q3, q4, q5, q6, q7, q8, q9, q10⟩ := ((HR.out k hkn).below HB0.out hg).below hb (by have := HSW.out; omega)
      obtain ⟨h0, h1, h2, h3, h4, h5, h6, h7, h8, h9, h10, f0, f1, f2, f3, f4, f5, f6, f7, f8, f9, f10⟩ := HRC.out.below hb (by have := HSW.out; omega)
      have hz : w.heap.size < wr.heap.size := by have := hb.size; have := HSW.out; omega
      have hbw := HB0.out.trans (hb.mono (by have := HSW.out; omega))
      have HBW := Lib.hid hbw
      clear hb hW hbw
      go_wp2
      have hbw := HBW.out
      refine bodyPost_ret (v := .tuple #[fldT (NM k) (TY k) (EL k) (AT k), .bool true]) ?_ rfl ⟨rfl, ?_⟩
      · unfold fldT; simp [results, Try.results55, go_sem, h0, h1, h2, h3, h4, h5, h6, h7, h8, h9, h10, hz]
      · ((repeat (first | (with_reducible exact hbw) | (with_reducible apply Below.setCell) | (with_reducible apply Below.alloc))) <;> first | omega | (simp <;> omega))

open Go Go.RowKit
set_option linter.unusedVariables false
set_option linter.unusedSimpArgs false

theorem upM_step (y a : Int) (ha : 1 ≤ a) (h : ¬ y % a = 0) : upM (y + 1) a = upM y a := by
  have h1 := Int.emod_nonneg y (show a ≠ 0 by omega)
  have h2 := Int.emod_lt_of_pos y (show 0 < a by omega)
  have h3 : (y + 1) % a = (y % a + 1) % a := (Int.emod_add_emod y a 1).symm
  unfold upM
  rw [if_neg h]
  by_cases e : y % a + 1 = a
  · have h4 : (y + 1) % a = 0 := by rw [h3, e, Int.emod_self]
    rw [if_pos h4]; omega
  · have h4 : (y + 1) % a = y % a + 1 := by rw [h3]; exact Int.emod_eq_of_lt (by omega) (by omega)
    rw [if_neg (by rw [h4]; omega), h4]; omega
theorem upM_ge (y a : Int) (ha : 1 ≤ a) : y ≤ upM y a ∧ upM y a < y + a := by
  have h1 := Int.emod_nonneg y (show a ≠ 0 by omega)
  have h2 := Int.emod_lt_of_pos y (show 0 < a by omega)
  unfold upM; split <;> omega
theorem upM_at (y a : Int) (h : y % a = 0) : upM y a = y := by unfold upM; rw [if_pos h]
theorem upM_lt (y a : Int) (ha : 1 ≤ a) (h : ¬ y % a = 0) : y < upM y a := by
  have h1 := Int.emod_nonneg y (show a ≠ 0 by omega)
  have h2 := Int.emod_lt_of_pos y (show 0 < a by omega)
  unfold upM; rw [if_neg h]; omega
end Go.Proofs.Ytdkhanjfncbfnaa
