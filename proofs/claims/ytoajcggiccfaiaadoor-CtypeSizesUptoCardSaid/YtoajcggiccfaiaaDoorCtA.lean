import Derived.Test.YtoajcggiccfaiaaDoorCtM
namespace Go.Proofs.YtoajcggiccfaiaaDoor
open Go Go.RowKit

set_option maxHeartbeats 400000 in
theorem intOf_any (n : Int) (sg : Bool) (w : World) :
    Calls Tryd.prog 20 #[.int .i64 n, .bool sg] w fun e w' => e = .returned (tyV (.int n sg false) none) ∧ Below w.heap.size w w' := by
  go_enter Tryd.func20, Tryd.ntmps20
  go_wp2
  refine bodyPost_ret (v := tyV (.int n sg false) none) ?_ rfl ⟨rfl, ?_⟩
  · simp [results, Tryd.results20, go_sem, tyV, Ty.kind, Ty.size, Ty.sg, Ty.sc, Ty.len, Ty.num]
  · exact ((Below.refl _ _).alloc (Nat.le_refl _) _)

set_option maxHeartbeats 400000 in
theorem voidType_any (w : World) :
    Calls Tryd.prog 16 #[] w fun e w' => e = .returned (tyV .void none) ∧ Below w.heap.size w w' := by
  go_enter Tryd.func16, Tryd.ntmps16
  go_wp2
  refine bodyPost_ret (v := tyV .void none) ?_ rfl ⟨rfl, ?_⟩
  · simp [results, Tryd.results16, go_sem, tyV, Ty.kind, Ty.size, Ty.sg, Ty.sc, Ty.len, Ty.num]
  · exact ((Below.refl _ _).alloc (Nat.le_refl _) _)

set_option maxHeartbeats 400000 in
theorem target_any (b : Nat) (t : Ty) (el : Option Addr) (w : World) (hc : Cells9 w b 0 t el) :
    Calls Tryd.prog 26 #[.pointer (some ⟨b, 0, none⟩)] w fun e w' => e = .returned (tyV t el) ∧ Below w.heap.size w w' := by
  obtain ⟨h0, h1, h2, h3, h4, h5, h6, h7, h8⟩ := hc
  have hlt := World.block_lt_of_cell? w _ h0
  simp only [Nat.zero_add] at h1 h2 h3 h4 h5 h6 h7 h8
  go_enter Tryd.func26, Tryd.ntmps26
  go_wp2
  refine bodyPost_ret (v := tyV t el) ?_ rfl ⟨rfl, ?_⟩
  · simp [results, Tryd.results26, go_sem, tyV]
  · exact ((Below.refl _ _).alloc (Nat.le_refl _) _)

set_option maxHeartbeats 400000 in
theorem clone_any (w : World) :
    Calls Tryd.prog 43 #[.slice none 0 0] w fun e w' => e = .returned (.slice none 0 0) ∧ w = w' := by
  have hn := Lib.run_eql_slice_nil (P := Tryd.prog) w 32 34 none 0 0 0 0 Tryd.underlying32
  go_enter Tryd.func43, Tryd.ntmps43
  go_wp2
  go_ret
  exact ⟨rfl, rfl⟩

def upM (n a : Int) : Int := if n % a = 0 then n else n - n % a + a

set_option maxHeartbeats 400000 in
theorem up_any (n a : Int) (w : World) (h0 : 0 ≤ n) (h1 : n ≤ 4611686018427387904) (h2 : 1 ≤ a) (h3 : a ≤ 4611686018427387904) :
    Calls Tryd.prog 17 #[.int .i64 n, .int .i64 a] w fun e w' => e = .returned (.int .i64 (upM n a)) ∧ w = w' := by
  have hm1 : 0 ≤ n % a := Int.emod_nonneg _ (by omega)
  have hm2 : n % a < a := Int.emod_lt_of_pos _ (by omega)
  have hm3 : n % a ≤ n := by
    have := Int.emod_add_mul_ediv n a
    have h5 : 0 ≤ n / a := Int.ediv_nonneg h0 (by omega)
    have h6 : 0 ≤ a * (n / a) := Int.mul_nonneg (by omega) h5
    omega
  by_cases hz : n % a = 0
  · have HU := Lib.hid (show upM n a = n by unfold upM; rw [if_pos hz])
    go_enter Tryd.func17, Tryd.ntmps17
    go_wp2
    go_ret
    exact ⟨by simp [HU.out], rfl⟩
  · have HU := Lib.hid (show upM n a = n - n % a + a by unfold upM; rw [if_neg hz])
    have hd : 0 < n % a := by omega
    clear hz
    go_enter Tryd.func17, Tryd.ntmps17
    go_wp2
    go_ret
    exact ⟨by simp [HU.out], rfl⟩
end Go.Proofs.YtoajcggiccfaiaaDoor
