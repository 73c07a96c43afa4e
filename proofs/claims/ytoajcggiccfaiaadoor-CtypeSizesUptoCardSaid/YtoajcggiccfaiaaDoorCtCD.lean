import Derived.Test.YtoajcggiccfaiaaDoorCtCA
namespace Go.Proofs.YtoajcggiccfaiaaDoor
open Go Go.RowKit
set_option linter.unusedVariables false
set_option linter.unusedSimpArgs false

/-- One struct of the reference's list: its three cells. -/
structure R3 (w : World) (b o : Nat) (nm : ByteArray) (v : Value) (g c cc : Nat) : Prop where
  c0 : w.cell? ⟨b, o, none⟩ = some (.string nm)
  c1 : w.cell? ⟨b, o + 1, none⟩ = some v
  c2 : w.cell? ⟨b, o + 2, none⟩ = some (.slice (some ⟨g, 0, none⟩) c cc)
theorem R3.same {w w' : World} {b o : Nat} {nm : ByteArray} {v : Value} {g c cc : Nat} (h : R3 w b o nm v g c cc) (hk : ∀ o, w'.cell? ⟨b, o, none⟩ = w.cell? ⟨b, o, none⟩) : R3 w' b o nm v g c cc := by
  obtain ⟨h0, h1, h2⟩ := h
  constructor <;> (rw [hk]; assumption)

/-- The reference's list of N structs. -/
structure RTab (w : World) (lb N lc : Nat) (la : Option Addr) (RN : Nat → ByteArray) (RV : Nat → Option Addr × Nat × Nat) (G CT CC : Nat → Nat) (TY : Nat → Nat → Ty) (EL : Nat → Nat → Option Addr) : Prop where
  a : 0 < N → la = some ⟨lb, 0, none⟩
  l : 0 < N → lb < w.heap.size
  r : ∀ k, k < N → R3 w lb (k * 3) (RN k) (.slice (RV k).1 (RV k).2.1 (RV k).2.2) (G k) (CT k) (CC k)
  g : ∀ k, k < N → G k < w.heap.size
  t : ∀ k, k < N → ∀ i, i < CT k → Cells9 w (G k) (i * 9) (TY k i) (EL k i) ∧ ElAt w 0 w.heap.size (TY k i) (EL k i)
theorem RTab.below {w w' : World} {lb N lc : Nat} {la : Option Addr} {RN : Nat → ByteArray} {RV : Nat → Option Addr × Nat × Nat} {G CT CC : Nat → Nat} {TY : Nat → Nat → Ty} {EL : Nat → Nat → Option Addr} (h : RTab w lb N lc la RN RV G CT CC TY EL) (hb : Below w.heap.size w w') : RTab w' lb N lc la RN RV G CT CC TY EL :=
  ⟨h.a, fun hn => Nat.lt_of_lt_of_le (h.l hn) hb.size, fun k hk => (h.r k hk).same fun o => hb.cell (p := ⟨lb, o, none⟩) (h.l (by omega)), fun k hk => Nat.lt_of_lt_of_le (h.g k hk) hb.size,
    fun k hk i hi => ⟨(h.t k hk i hi).1.below hb (h.g k hk), ((h.t k hk i hi).2.below hb (Nat.le_refl _)).mono (Nat.le_refl _) hb.size⟩⟩

section
variable (lb N lc : Nat) (la : Option Addr) (RN : Nat → ByteArray) (RV : Nat → Option Addr × Nat × Nat) (G CT CC : Nat → Nat) (TY : Nat → Nat → Ty) (EL : Nat → Nat → Option Addr)

set_option maxHeartbeats 1000000 in
theorem ralign_int (v : Value) (n : Int) (b c : Bool) (w : World) :
    Calls Tryd.prog 11 #[v, tyV (.int n b c) none] w (IntRes n w) := by
  rw [tyV_int]
  go_enter Tryd.func11, Tryd.ntmps11
  go_wp2_with fail
  go_ret
  exact ⟨rfl, (Below.refl _ _).alloc (Nat.le_refl _) _⟩
set_option maxHeartbeats 1000000 in
theorem ralign_ptr (v : Value) (t : Ty) (el : Option Addr) (w : World) :
    Calls Tryd.prog 11 #[v, tyV (.ptr t) el] w (IntRes 8 w) := by
  rw [tyV_ptr]
  go_enter Tryd.func11, Tryd.ntmps11
  go_wp2_with fail
  go_ret
  exact ⟨rfl, (Below.refl _ _).alloc (Nat.le_refl _) _⟩
set_option maxHeartbeats 1000000 in
theorem ralign_void (v : Value) (w : World) :
    Calls Tryd.prog 11 #[v, tyV .void none] w (IntRes 1 w) := by
  rw [show tyV .void none = .agg #[.int .i64 0, .int .i64 0, .bool false, .bool false, .pointer none, .int .i64 0, .int .i64 0, .slice none 0 0, .pointer none] from rfl]
  go_enter Tryd.func11, Tryd.ntmps11
  go_wp2_with fail
  go_ret
  exact ⟨rfl, (Below.refl _ _).alloc (Nat.le_refl _) _⟩
set_option maxHeartbeats 2000000 in
theorem ralign_st_out (hN : N ≤ 1000000) (k : Int) (hk : k < 0 ∨ (N : Int) ≤ k) (w : World) :
    Calls Tryd.prog 11 #[.slice la N lc, tyV (.st k) none] w (IntRes 1 w) := by
  rw [show tyV (.st k) none = .agg #[.int .i64 4, .int .i64 0, .bool false, .bool false, .pointer none, .int .i64 0, .int .i64 k, .slice none 0 0, .pointer none] from rfl]
  rcases hk with hk | hk
  all_goals
    go_enter Tryd.func11, Tryd.ntmps11
    go_wp2_with fail
    all_goals
      go_ret
      exact ⟨rfl, (Below.refl _ _).alloc (Nat.le_refl _) _⟩
set_option maxHeartbeats 1000000 in
theorem rsize_int (v : Value) (n : Int) (b c : Bool) (w : World) :
    Calls Tryd.prog 9 #[v, tyV (.int n b c) none] w (IntRes n w) := by
  rw [tyV_int]
  go_enter Tryd.func9, Tryd.ntmps9
  go_wp2_with fail
  go_ret
  exact ⟨rfl, (Below.refl _ _).alloc (Nat.le_refl _) _⟩
set_option maxHeartbeats 1000000 in
theorem rsize_ptr (v : Value) (t : Ty) (el : Option Addr) (w : World) :
    Calls Tryd.prog 9 #[v, tyV (.ptr t) el] w (IntRes 8 w) := by
  rw [tyV_ptr]
  go_enter Tryd.func9, Tryd.ntmps9
  go_wp2_with fail
  go_ret
  exact ⟨rfl, (Below.refl _ _).alloc (Nat.le_refl _) _⟩
set_option maxHeartbeats 1000000 in
theorem rsize_void (v : Value) (w : World) :
    Calls Tryd.prog 9 #[v, tyV .void none] w (IntRes 0 w) := by
  rw [show tyV .void none = .agg #[.int .i64 0, .int .i64 0, .bool false, .bool false, .pointer none, .int .i64 0, .int .i64 0, .slice none 0 0, .pointer none] from rfl]
  go_enter Tryd.func9, Tryd.ntmps9
  go_wp2_with fail
  go_ret
  exact ⟨rfl, (Below.refl _ _).alloc (Nat.le_refl _) _⟩
set_option maxHeartbeats 2000000 in
theorem rsize_st_out (hN : N ≤ 1000000) (k : Int) (hk : k < 0 ∨ (N : Int) ≤ k) (w : World) :
    Calls Tryd.prog 9 #[.slice la N lc, tyV (.st k) none] w (IntRes 0 w) := by
  rw [show tyV (.st k) none = .agg #[.int .i64 4, .int .i64 0, .bool false, .bool false, .pointer none, .int .i64 0, .int .i64 k, .slice none 0 0, .pointer none] from rfl]
  rcases hk with hk | hk
  all_goals
    go_enter Tryd.func9, Tryd.ntmps9
    go_wp2_with fail
    all_goals
      go_ret
      exact ⟨rfl, (Below.refl _ _).alloc (Nat.le_refl _) _⟩
end
end Go.Proofs.YtoajcggiccfaiaaDoor
