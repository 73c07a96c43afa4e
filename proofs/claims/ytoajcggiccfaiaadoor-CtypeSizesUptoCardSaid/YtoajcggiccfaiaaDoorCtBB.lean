import Derived.Test.YtoajcggiccfaiaaDoorCtBA
namespace Go.Proofs.YtoajcggiccfaiaaDoor
open Go Go.RowKit
set_option linter.unusedVariables false
set_option linter.unusedSimpArgs false

/-- A type's size, over a table's structs. -/
def sizeM (n : Nat) (SZ : Nat → Int) : Ty → Int
  | .void => 0
  | .int k _ _ => k
  | .ptr _ => 8
  | .arr t m => timesM m (sizeM n SZ t)
  | .st k => if 0 ≤ k ∧ k < n then SZ k.toNat else 0
def alignM (n : Nat) (AL : Nat → Int) : Ty → Int
  | .void => 1
  | .int k _ _ => k
  | .ptr _ => 8
  | .arr t _ => alignM n AL t
  | .st k => if 0 ≤ k ∧ k < n then AL k.toNat else 1
/-- What the statements' types keep to. -/
def OkT : Ty → Prop
  | .int k _ _ => 1 ≤ k ∧ k ≤ 8
  | .arr t m => 0 ≤ m ∧ m ≤ 1000000 ∧ OkT t
  | _ => True
theorem sizeM_range (n : Nat) (SZ : Nat → Int) (hs : ∀ k, k < n → 0 ≤ SZ k ∧ SZ k ≤ 1099511627776) : ∀ t, OkT t → 0 ≤ sizeM n SZ t ∧ sizeM n SZ t ≤ 1099511627776 := by
  intro t
  induction t with
  | void => intro _; exact ⟨by simp [sizeM], by simp [sizeM]⟩
  | int k b c => intro h; obtain ⟨h1, h2⟩ := h; exact ⟨by simp [sizeM]; omega, by simp [sizeM]; omega⟩
  | ptr t ih => intro _; exact ⟨by simp [sizeM], by simp [sizeM]⟩
  | arr t m ih => intro h; obtain ⟨h1, h2, h3⟩ := h; exact timesM_range m _ h1 (ih h3).1
  | st k =>
    intro _
    unfold sizeM
    split
    · rename_i h; exact hs _ (by omega)
    · exact ⟨by decide, by decide⟩

set_option maxHeartbeats 1000000 in
theorem size_ptr (tab : Value) (t : Ty) (el : Option Addr) (w : World) :
    Calls Tryd.prog 8 #[tab, tyV (.ptr t) el] w (IntRes 8 w) := by
  rw [tyV_ptr]
  go_enter Tryd.func8, Tryd.ntmps8
  go_wp2_with fail
  go_ret
  exact ⟨rfl, (Below.refl _ _).alloc (Nat.le_refl _) _⟩

set_option maxHeartbeats 1000000 in
theorem size_void (tab : Value) (w : World) :
    Calls Tryd.prog 8 #[tab, tyV .void none] w (IntRes 0 w) := by
  rw [show tyV .void none = .agg #[.int .i64 0, .int .i64 0, .bool false, .bool false, .pointer none, .int .i64 0, .int .i64 0, .slice none 0 0, .pointer none] from rfl]
  go_enter Tryd.func8, Tryd.ntmps8
  go_wp2_with fail
  go_ret
  exact ⟨rfl, (Below.refl _ _).alloc (Nat.le_refl _) _⟩

set_option maxHeartbeats 2000000 in
theorem size_st_in (tb rb n rc : Nat) (hn : n ≤ 1000000) (a : Option Addr) (NM : Nat → ByteArray) (FA : Nat → Option Addr) (FN FC : Nat → Nat) (SZ AL : Nat → Int) (k : Nat) (hk : k < n) (w : World) (h : TabN w tb rb n rc a NM FA FN FC SZ AL) :
    Calls Tryd.prog 8 #[.pointer (some ⟨tb, 0, none⟩), tyV (.st k) none] w (IntRes (SZ k) w) := by
  have H := Lib.hid h
  have k0 := World.block_lt_of_cell? w _ h.t
  simp at k0
  clear h
  have HC := Lib.hid (fun w (h : TabN w tb rb n rc a NM FA FN FC SZ AL) => record_in tb rb n rc hn a NM FA FN FC SZ AL k hk w h)
  rw [show tyV (.st k) none = .agg #[.int .i64 4, .int .i64 0, .bool false, .bool false, .pointer none, .int .i64 0, .int .i64 k, .slice none 0 0, .pointer none] from rfl]
  go_enter Tryd.func8, Tryd.ntmps8
  go_wp2_with fail
  refine (HC.out _ (H.out.below k0 ((Below.refl w.heap.size w).alloc (Nat.le_refl _) _))).mono ?_
  rintro e w1 ⟨rfl, hb⟩
  have hB := Lib.hid (((Below.refl w.heap.size w).alloc (Nat.le_refl _) _).trans (hb.mono (by simp)))
  have hz := hb.size
  simp at hz
  clear hb
  go_wp2_with fail
  go_ret
  exact ⟨rfl, hB.out.alloc (by omega) _⟩

set_option maxHeartbeats 2000000 in
theorem size_st_out (tb rb n rc : Nat) (hn : n ≤ 1000000) (a : Option Addr) (NM : Nat → ByteArray) (FA : Nat → Option Addr) (FN FC : Nat → Nat) (SZ AL : Nat → Int) (k : Int) (hk : k < 0 ∨ (n : Int) ≤ k) (w : World) (h : TabN w tb rb n rc a NM FA FN FC SZ AL) :
    Calls Tryd.prog 8 #[.pointer (some ⟨tb, 0, none⟩), tyV (.st k) none] w (IntRes (0) w) := by
  have H := Lib.hid h
  have k0 := World.block_lt_of_cell? w _ h.t
  simp at k0
  clear h
  have HC := Lib.hid (fun w (h : TabN w tb rb n rc a NM FA FN FC SZ AL) => record_out tb rb n rc hn a NM FA FN FC SZ AL k hk w h)
  rw [show tyV (.st k) none = .agg #[.int .i64 4, .int .i64 0, .bool false, .bool false, .pointer none, .int .i64 0, .int .i64 k, .slice none 0 0, .pointer none] from rfl]
  go_enter Tryd.func8, Tryd.ntmps8
  go_wp2_with fail
  refine (HC.out _ (H.out.below k0 ((Below.refl w.heap.size w).alloc (Nat.le_refl _) _))).mono ?_
  rintro e w1 ⟨rfl, hb⟩
  have hB := Lib.hid (((Below.refl w.heap.size w).alloc (Nat.le_refl _) _).trans (hb.mono (by simp)))
  have hz := hb.size
  simp at hz
  clear hb
  go_wp2_with fail
  go_ret
  exact ⟨rfl, hB.out.alloc (by omega) _⟩

set_option maxHeartbeats 1000000 in
theorem align_ptr (tab : Value) (t : Ty) (el : Option Addr) (w : World) :
    Calls Tryd.prog 10 #[tab, tyV (.ptr t) el] w (IntRes 8 w) := by
  rw [tyV_ptr]
  go_enter Tryd.func10, Tryd.ntmps10
  go_wp2_with fail
  go_ret
  exact ⟨rfl, (Below.refl _ _).alloc (Nat.le_refl _) _⟩

set_option maxHeartbeats 1000000 in
theorem align_void (tab : Value) (w : World) :
    Calls Tryd.prog 10 #[tab, tyV .void none] w (IntRes 1 w) := by
  rw [show tyV .void none = .agg #[.int .i64 0, .int .i64 0, .bool false, .bool false, .pointer none, .int .i64 0, .int .i64 0, .slice none 0 0, .pointer none] from rfl]
  go_enter Tryd.func10, Tryd.ntmps10
  go_wp2_with fail
  go_ret
  exact ⟨rfl, (Below.refl _ _).alloc (Nat.le_refl _) _⟩

set_option maxHeartbeats 2000000 in
theorem align_st_in (tb rb n rc : Nat) (hn : n ≤ 1000000) (a : Option Addr) (NM : Nat → ByteArray) (FA : Nat → Option Addr) (FN FC : Nat → Nat) (SZ AL : Nat → Int) (k : Nat) (hk : k < n) (w : World) (h : TabN w tb rb n rc a NM FA FN FC SZ AL) :
    Calls Tryd.prog 10 #[.pointer (some ⟨tb, 0, none⟩), tyV (.st k) none] w (IntRes (AL k) w) := by
  have H := Lib.hid h
  have k0 := World.block_lt_of_cell? w _ h.t
  simp at k0
  clear h
  have HC := Lib.hid (fun w (h : TabN w tb rb n rc a NM FA FN FC SZ AL) => record_in tb rb n rc hn a NM FA FN FC SZ AL k hk w h)
  rw [show tyV (.st k) none = .agg #[.int .i64 4, .int .i64 0, .bool false, .bool false, .pointer none, .int .i64 0, .int .i64 k, .slice none 0 0, .pointer none] from rfl]
  go_enter Tryd.func10, Tryd.ntmps10
  go_wp2_with fail
  refine (HC.out _ (H.out.below k0 ((Below.refl w.heap.size w).alloc (Nat.le_refl _) _))).mono ?_
  rintro e w1 ⟨rfl, hb⟩
  have hB := Lib.hid (((Below.refl w.heap.size w).alloc (Nat.le_refl _) _).trans (hb.mono (by simp)))
  have hz := hb.size
  simp at hz
  clear hb
  go_wp2_with fail
  go_ret
  exact ⟨rfl, hB.out.alloc (by omega) _⟩

set_option maxHeartbeats 2000000 in
theorem align_st_out (tb rb n rc : Nat) (hn : n ≤ 1000000) (a : Option Addr) (NM : Nat → ByteArray) (FA : Nat → Option Addr) (FN FC : Nat → Nat) (SZ AL : Nat → Int) (k : Int) (hk : k < 0 ∨ (n : Int) ≤ k) (w : World) (h : TabN w tb rb n rc a NM FA FN FC SZ AL) :
    Calls Tryd.prog 10 #[.pointer (some ⟨tb, 0, none⟩), tyV (.st k) none] w (IntRes (1) w) := by
  have H := Lib.hid h
  have k0 := World.block_lt_of_cell? w _ h.t
  simp at k0
  clear h
  have HC := Lib.hid (fun w (h : TabN w tb rb n rc a NM FA FN FC SZ AL) => record_out tb rb n rc hn a NM FA FN FC SZ AL k hk w h)
  rw [show tyV (.st k) none = .agg #[.int .i64 4, .int .i64 0, .bool false, .bool false, .pointer none, .int .i64 0, .int .i64 k, .slice none 0 0, .pointer none] from rfl]
  go_enter Tryd.func10, Tryd.ntmps10
  go_wp2_with fail
  refine (HC.out _ (H.out.below k0 ((Below.refl w.heap.size w).alloc (Nat.le_refl _) _))).mono ?_
  rintro e w1 ⟨rfl, hb⟩
  have hB := Lib.hid (((Below.refl w.heap.size w).alloc (Nat.le_refl _) _).trans (hb.mono (by simp)))
  have hz := hb.size
  simp at hz
  clear hb
  go_wp2_with fail
  go_ret
  exact ⟨rfl, hB.out.alloc (by omega) _⟩

set_option maxHeartbeats 4000000 in
theorem size_arr (tb rb n rc : Nat) (hn : n ≤ 1000000) (a : Option Addr) (NM : Nat → ByteArray) (FA : Nat → Option Addr) (FN FC : Nat → Nat) (SZ AL : Nat → Int) (hs : ∀ k, k < n → 0 ≤ SZ k ∧ SZ k ≤ 1099511627776) (t : Ty) (m : Int) (hm0 : 0 ≤ m) (hm1 : m ≤ 1000000) (ok : OkT t)
    (ih : ∀ (el : Option Addr) (w : World), TabN w tb rb n rc a NM FA FN FC SZ AL → ElAt w 0 w.heap.size t el → Calls Tryd.prog 8 #[.pointer (some ⟨tb, 0, none⟩), tyV t el] w (IntRes (sizeM n SZ t) w))
    (el : Option Addr) (w : World) (h : TabN w tb rb n rc a NM FA FN FC SZ AL) (he : ElAt w 0 w.heap.size (.arr t m) el) :
    Calls Tryd.prog 8 #[.pointer (some ⟨tb, 0, none⟩), tyV (.arr t m) el] w (IntRes (sizeM n SZ (.arr t m)) w) := by
  obtain ⟨b, e0, rfl, hb0, hb1, hc, he'⟩ := he
  obtain ⟨z0, z1⟩ := sizeM_range n SZ hs t ok
  have HZ := Lib.hid (And.intro z0 z1)
  have k0 := World.block_lt_of_cell? w _ h.t
  simp at k0
  have HI := Lib.hid ih
  have HT0 := Lib.hid h
  have HTB := Lib.hid k0
  have HC0 := Lib.hid hc
  have HLT := Lib.hid hb1
  have HE0 := Lib.hid he'
  rw [show sizeM n SZ (.arr t m) = timesM m (sizeM n SZ t) from rfl]
  clear ih h k0 hc hb0 hb1 he' z0 z1 hs ok
  generalize sizeM n SZ t = sz at HZ HI
  rw [tyV_arr]
  go_enter Tryd.func8, Tryd.ntmps8
  go_wp2_with fail
  generalize hW : w.alloc (.cells #[.int .i64 3, .int .i64 0, .bool false, .bool false, .pointer (some ⟨b, 0, none⟩), .int .i64 m, .int .i64 0, .slice none 0 0, .pointer none] 34) = W
  have hbW : Below w.heap.size w W := by rw [← hW]; exact (Below.refl _ _).alloc (Nat.le_refl _) _
  have hsW : W.heap.size = w.heap.size + 1 := by rw [← hW]; simp
  have p4 : W.cell? ⟨w.heap.size, 4, none⟩ = some (.pointer (some ⟨b, 0, none⟩)) := by rw [← hW]; simp
  have p5 : W.cell? ⟨w.heap.size, 5, none⟩ = some (.int .i64 m) := by rw [← hW]; simp
  have HT := Lib.hid (HT0.out.below HTB.out hbW)
  have HC := Lib.hid (HC0.out.below hbW HLT.out)
  have HE := Lib.hid ((HE0.out.below hbW (Nat.le_refl _)).mono (Nat.le_refl _) hbW.size)
  have HBW := Lib.hid hbW
  have HSW := Lib.hid hsW
  clear hW hbW hsW
  go_region_held3 (fun w' => w'.cell? ⟨w.heap.size, 4, none⟩ = some (.pointer (some ⟨b, 0, none⟩)) ∧ w'.cell? ⟨w.heap.size, 5, none⟩ = some (.int .i64 m)) (go_keep)
    (first
      | (go_at_call 26
         (with_reducible refine (target_any b t e0 _ (HC.out.below ((Below.refl W.heap.size W).drew) (by have := HLT.out; have := HSW.out; omega))).mono ?_)
         rintro e w1 ⟨rfl, hb1⟩
         have HB1 : Hid (Below W.heap.size W w1) := Lib.hid ((Below.refl _ _).drew.trans hb1)
         have p41 : w1.cell? ⟨w.heap.size, 4, none⟩ = some (.pointer (some ⟨b, 0, none⟩)) := by rw [HB1.out.cell (by simp [HSW.out])]; exact p4
         have p51 : w1.cell? ⟨w.heap.size, 5, none⟩ = some (.int .i64 m) := by rw [HB1.out.cell (by simp [HSW.out])]; exact p5
         clear hb1)
      | (go_at_call 8
         (with_reducible refine (HI.out e0 _ (HT.out.below (by have := HTB.out; have := HSW.out; omega) HB1.out) ((HE.out.below HB1.out (Nat.le_refl _)).mono (Nat.le_refl _) HB1.out.size)).mono ?_)
         rintro e w2 ⟨rfl, hb2⟩
         have HB2 : Hid (Below W.heap.size W w2) := Lib.hid (HB1.out.trans (hb2.mono HB1.out.size))
         have p42 : w2.cell? ⟨w.heap.size, 4, none⟩ = some (.pointer (some ⟨b, 0, none⟩)) := by rw [HB2.out.cell (by simp [HSW.out])]; exact p4
         have p52 : w2.cell? ⟨w.heap.size, 5, none⟩ = some (.int .i64 m) := by rw [HB2.out.cell (by simp [HSW.out])]; exact p5
         clear hb2)
      | (go_at_call 25
         (with_reducible refine (times_any m sz hm0 HZ.out.1 HZ.out.2 (by omega) _).mono ?_)
         rintro e w3 ⟨rfl, rfl⟩))
  go_wp2_with fail
  go_ret
  exact ⟨rfl, HBW.out.trans (HB2.out.mono (by have := HSW.out; omega))⟩

set_option maxHeartbeats 4000000 in
theorem align_arr (tb rb n rc : Nat) (hn : n ≤ 1000000) (a : Option Addr) (NM : Nat → ByteArray) (FA : Nat → Option Addr) (FN FC : Nat → Nat) (SZ AL : Nat → Int) (t : Ty) (m : Int)
    (ih : ∀ (el : Option Addr) (w : World), TabN w tb rb n rc a NM FA FN FC SZ AL → ElAt w 0 w.heap.size t el → Calls Tryd.prog 10 #[.pointer (some ⟨tb, 0, none⟩), tyV t el] w (IntRes (alignM n AL t) w))
    (el : Option Addr) (w : World) (h : TabN w tb rb n rc a NM FA FN FC SZ AL) (he : ElAt w 0 w.heap.size (.arr t m) el) :
    Calls Tryd.prog 10 #[.pointer (some ⟨tb, 0, none⟩), tyV (.arr t m) el] w (IntRes (alignM n AL (.arr t m)) w) := by
  obtain ⟨b, e0, rfl, hb0, hb1, hc, he'⟩ := he
  have k0 := World.block_lt_of_cell? w _ h.t
  simp at k0
  have HI := Lib.hid ih
  have HT0 := Lib.hid h
  have HTB := Lib.hid k0
  have HC0 := Lib.hid hc
  have HLT := Lib.hid hb1
  have HE0 := Lib.hid he'
  rw [show alignM n AL (.arr t m) = alignM n AL t from rfl]
  clear ih h k0 hc hb0 hb1 he'
  rw [tyV_arr]
  go_enter Tryd.func10, Tryd.ntmps10
  go_wp2_with fail
  generalize hW : w.alloc (.cells #[.int .i64 3, .int .i64 0, .bool false, .bool false, .pointer (some ⟨b, 0, none⟩), .int .i64 m, .int .i64 0, .slice none 0 0, .pointer none] 34) = W
  have hbW : Below w.heap.size w W := by rw [← hW]; exact (Below.refl _ _).alloc (Nat.le_refl _) _
  have hsW : W.heap.size = w.heap.size + 1 := by rw [← hW]; simp
  have p4 : W.cell? ⟨w.heap.size, 4, none⟩ = some (.pointer (some ⟨b, 0, none⟩)) := by rw [← hW]; simp
  have p5 : W.cell? ⟨w.heap.size, 5, none⟩ = some (.int .i64 m) := by rw [← hW]; simp
  have HT := Lib.hid (HT0.out.below HTB.out hbW)
  have HC := Lib.hid (HC0.out.below hbW HLT.out)
  have HE := Lib.hid ((HE0.out.below hbW (Nat.le_refl _)).mono (Nat.le_refl _) hbW.size)
  have HBW := Lib.hid hbW
  have HSW := Lib.hid hsW
  clear hW hbW hsW
  (with_reducible refine (target_any b t e0 _ HC.out).mono ?_)
  rintro e w1 ⟨rfl, hb1⟩
  have HB1 := Lib.hid hb1
  clear hb1
  go_wp2_with fail
  (with_reducible refine (HI.out e0 _ (HT.out.below (by have := HTB.out; have := HSW.out; omega) HB1.out) ((HE.out.below HB1.out (Nat.le_refl _)).mono (Nat.le_refl _) HB1.out.size)).mono ?_)
  rintro e w2 ⟨rfl, hb2⟩
  have HB2 := Lib.hid (HB1.out.trans (hb2.mono HB1.out.size))
  clear hb2
  go_wp2_with fail
  go_ret
  exact ⟨rfl, HBW.out.trans (HB2.out.mono (by have := HSW.out; omega))⟩

theorem size_any (tb rb n rc : Nat) (hn : n ≤ 1000000) (a : Option Addr) (NM : Nat → ByteArray) (FA : Nat → Option Addr) (FN FC : Nat → Nat) (SZ AL : Nat → Int) (hs : ∀ k, k < n → 0 ≤ SZ k ∧ SZ k ≤ 1099511627776) (t : Ty) : OkT t → ∀ (el : Option Addr) (w : World), TabN w tb rb n rc a NM FA FN FC SZ AL → ElAt w 0 w.heap.size t el → Calls Tryd.prog 8 #[.pointer (some ⟨tb, 0, none⟩), tyV t el] w (IntRes (sizeM n SZ t) w) := by
  induction t with
  | void => intro hok el w h he; obtain rfl : el = none := he; exact size_void _ w
  | int k b c => intro hok el w h he; obtain rfl : el = none := he; exact size_int _ k b c w
  | ptr t ih => intro hok el w h he; exact size_ptr _ t el w
  | arr t m ih => intro hok el w h he; exact size_arr tb rb n rc hn a NM FA FN FC SZ AL hs t m hok.1 hok.2.1 hok.2.2 (ih hok.2.2) el w h he
  | st k =>
    intro hok el w h he
    obtain rfl : el = none := he
    by_cases hk : 0 ≤ k ∧ k < n
    · obtain ⟨j, rfl⟩ : ∃ j : Nat, k = j := ⟨k.toNat, by omega⟩
      rw [show sizeM n SZ (.st (j : Int)) = SZ j from by unfold sizeM; rw [if_pos hk]; rfl]
      exact size_st_in tb rb n rc hn a NM FA FN FC SZ AL j (by omega) w h
    · rw [show sizeM n SZ (.st k) = 0 from by unfold sizeM; rw [if_neg hk]]
      exact size_st_out tb rb n rc hn a NM FA FN FC SZ AL k (by omega) w h

theorem align_any (tb rb n rc : Nat) (hn : n ≤ 1000000) (a : Option Addr) (NM : Nat → ByteArray) (FA : Nat → Option Addr) (FN FC : Nat → Nat) (SZ AL : Nat → Int) (t : Ty) : ∀ (el : Option Addr) (w : World), TabN w tb rb n rc a NM FA FN FC SZ AL → ElAt w 0 w.heap.size t el → Calls Tryd.prog 10 #[.pointer (some ⟨tb, 0, none⟩), tyV t el] w (IntRes (alignM n AL t) w) := by
  induction t with
  | void => intro el w h he; obtain rfl : el = none := he; exact align_void _ w
  | int k b c => intro el w h he; obtain rfl : el = none := he; exact align_int _ k b c w
  | ptr t ih => intro el w h he; exact align_ptr _ t el w
  | arr t m ih => intro el w h he; exact align_arr tb rb n rc hn a NM FA FN FC SZ AL t m ih el w h he
  | st k =>
    intro el w h he
    obtain rfl : el = none := he
    by_cases hk : 0 ≤ k ∧ k < n
    · obtain ⟨j, rfl⟩ : ∃ j : Nat, k = j := ⟨k.toNat, by omega⟩
      rw [show alignM n AL (.st (j : Int)) = AL j from by unfold alignM; rw [if_pos hk]; rfl]
      exact align_st_in tb rb n rc hn a NM FA FN FC SZ AL j (by omega) w h
    · rw [show alignM n AL (.st k) = 1 from by unfold alignM; rw [if_neg hk]]
      exact align_st_out tb rb n rc hn a NM FA FN FC SZ AL k (by omega) w h
end Go.Proofs.YtoajcggiccfaiaaDoor
