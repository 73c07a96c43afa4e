import Derived.Test.YtbhofebkbfndjaaDoorCtS
namespace Go.Proofs.YtbhofebkbfndjaaDoor
open Go Go.RowKit

theorem tyV_void : tyV .void none = .agg #[.int .i64 0, .int .i64 0, .bool false, .bool false, .pointer none, .int .i64 0, .int .i64 0, .slice none 0 0, .pointer none] := rfl

set_option maxRecDepth 100000 in
set_option maxHeartbeats 1000000 in
theorem write_void (b : Nat) (w : World) (hb : w.heap[b]? = some (.cells #[.pointer none, .slice none 0 0] 80 (0, 0))) :
    Calls Tryd.prog 30 #[.pointer none, .pointer (some ⟨b, 0, none⟩), tyV .void none] w fun e w' => e = .returned (.tuple #[]) ∧ Lib.BuilderAt 80 5 b b (.pointer (some ⟨b, 0, none⟩)) (Lib.strCells ⟨#[118, 111, 105, 100]⟩) w' ∧ Below b w w' := by
  have hlt : b < w.heap.size := by
    rcases Nat.lt_or_ge b w.heap.size with h | h
    · exact h
    · rw [Array.getElem?_eq_none h] at hb; cases hb
  rw [tyV_void]
  have hal : (w.alloc (.cells #[.int .i64 0, .int .i64 0, .bool false, .bool false, .pointer none, .int .i64 0, .int .i64 0, .slice none 0 0, .pointer none] 34)).heap[b]? = some (.cells #[.pointer none, .slice none 0 0] 80 (0, 0)) := by rw [Below.heap_alloc _ _ _ hlt]; exact hb
  have WS := Lib.hid (writeString_new b ⟨#[118, 111, 105, 100]⟩ (by decide) _ hal)
  clear hb hal
  go_enter Tryd.func30, Tryd.ntmps30
  go_wp2_with fail
  refine WS.out.mono ?_
  rintro e w1 ⟨rfl, h1, h2⟩
  have H1 := Lib.hid h1
  have H2 := Lib.hid h2
  clear h1 h2
  go_wp2_with fail
  go_end0
  exact ⟨rfl, H1.out, ((Below.refl _ _).alloc (by omega) _).trans H2.out⟩

set_option maxRecDepth 100000 in
set_option maxHeartbeats 1000000 in
theorem show_void (w : World) :
    Calls Tryd.prog 12 #[.pointer none, tyV .void none] w (TupRes (.string ⟨#[118, 111, 105, 100]⟩) w) := by
  have hb : ((w.alloc (.cells #[.int .i64 0, .int .i64 0, .bool false, .bool false, .pointer none, .int .i64 0, .int .i64 0, .slice none 0 0, .pointer none] 34)).alloc (.cells #[.pointer none, .slice none 0 0] 80)).heap[w.heap.size + 1]? = some (.cells #[.pointer none, .slice none 0 0] 80 (0, 0)) := by
    have := heap_alloc_new (w.alloc (.cells #[.int .i64 0, .int .i64 0, .bool false, .bool false, .pointer none, .int .i64 0, .int .i64 0, .slice none 0 0, .pointer none] 34)) (.cells #[.pointer none, .slice none 0 0] 80)
    rw [World.size_alloc] at this
    exact this
  have WV := Lib.hid (write_void (w.heap.size + 1) _ hb)
  clear hb
  rw [tyV_void]
  go_enter Tryd.func12, Tryd.ntmps12
  go_wp2_with fail
  refine WV.out.mono ?_
  rintro e w1 ⟨rfl, h1, h2⟩
  have hlt := h1.lt
  have SS := Lib.hid (Tryd.Builder_String_any (w.heap.size + 1) (w.heap.size + 1) [118, 111, 105, 100] w1 (.inr h1) (by omega))
  have H2 := Lib.hid h2
  clear h1 h2
  go_wp2_with fail
  refine SS.out.mono ?_
  rintro e w2 ⟨rfl, h3⟩
  have H3 := Lib.hid h3
  clear h3
  go_wp2_with fail
  go_ret
  exact ⟨rfl, ((((Below.refl w.heap.size w).alloc (Nat.le_refl _) _).alloc (by simp) _).trans (H2.out.mono (by omega))).trans (H3.out.mono (by omega))⟩
end Go.Proofs.YtbhofebkbfndjaaDoor
