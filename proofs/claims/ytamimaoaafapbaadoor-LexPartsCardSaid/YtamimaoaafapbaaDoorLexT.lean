import Derived.Test.YtamimaoaafapbaaDoorLexS
namespace Go.Proofs.YtamimaoaafapbaaDoor
open Go Go.RowKit

theorem own_cells {w : World} {base : Nat} {e : TypeId} {size : Nat} {v : Value} {n : Nat} {xs : List Value} (h : w.ownsRow base e size v n xs) (hn : 0 < n) :
    ∃ g cap, v = .slice (some ⟨g, 0, none⟩) n cap ∧ base ≤ g ∧ n ≤ cap ∧ cap ≤ maxLen ∧ ∀ j, j < n * size → w.cell? ⟨g, j, none⟩ = xs[j]? := by
  have h' := h
  rcases h.2 with ⟨_, h0⟩ | ⟨g, cap, cur, rfl, hg, _, h1, h2, _, _⟩
  · omega
  · exact ⟨g, cap, rfl, hg, h1, h2, fun j hj => h'.cellAt j hj⟩

theorem fit_scan : scanM [97, 43, 61, 48, 120, 49, 70, 117] = .ok [{ kind := 1, text := [97], at_ := 0, value := 0, uns := false, long := false }, { kind := 4, text := [43, 61], at_ := 1, value := 0, uns := false, long := false }, { kind := 3, text := [48, 120, 49, 70, 117], at_ := 3, value := 31, uns := true, long := false }, { kind := 0, text := [], at_ := 8, value := 0, uns := false, long := false }] := by kernel_rfl

set_option maxRecDepth 100000 in
set_option maxHeartbeats 2000000 in
theorem fit_any (w : World) (hg : G w) :
    Calls Tryd.prog 8 #[] w fun e w' => e = .returned (.bool true) ∧ Below w.heap.size w w' := by
  have c1 := scan_any ⟨#[97, 43, 61, 48, 120, 49, 70, 117]⟩ (by decide) w hg
  rw [show scanM (ByteArray.mk #[97, 43, 61, 48, 120, 49, 70, 117]).data.toList = _ from fit_scan] at c1
  have C1 := Lib.hid c1
  clear c1
  go_enter Tryd.func8, Tryd.ntmps8
  go_wp2_with fail
  refine C1.out.mono ?_
  rintro e w1 ⟨⟨v, rfl, hown⟩, hb⟩
  obtain ⟨g, cap, rfl, hbg, hcap, hm, hc⟩ := own_cells hown (by decide)
  have c7 : w1.cell? ⟨g, 7, none⟩ = some (.string ⟨#[43, 61]⟩) := hc 7 (by decide)
  have c15 : w1.cell? ⟨g, 15, none⟩ = some (.int .u64 31) := hc 15 (by decide)
  have c16 : w1.cell? ⟨g, 16, none⟩ = some (.bool true) := hc 16 (by decide)
  have c20 : w1.cell? ⟨g, 20, none⟩ = some (.int .i64 8) := hc 20 (by decide)
  have hlt := World.block_lt_of_cell? w1 _ c7
  clear hown hc
  go_wp2
  go_ret
  exact ⟨rfl, hb.alloc hb.size _⟩
end Go.Proofs.YtamimaoaafapbaaDoor
