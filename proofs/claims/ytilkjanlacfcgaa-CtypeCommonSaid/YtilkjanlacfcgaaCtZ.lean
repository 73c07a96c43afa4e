import Derived.Test.YtilkjanlacfcgaaCtH
namespace Go.Proofs.Ytilkjanlacfcgaa
open Go Go.RowKit

/-- The document's common type of two whole numbers' types. -/
def rN (n m : Int) : Int := if 4 < n ∨ 4 < m then 8 else 4
def rS (n m : Int) (b d : Bool) : Bool := !((n == rN n m && !b) || (m == rN n m && !d))
def RComRes (v : Value) (w : World) (e : Ending) (w' : World) : Prop := e = .returned v ∧ Below w.heap.size w w'

set_option maxRecDepth 100000 in
set_option maxHeartbeats 8000000 in
theorem rcommon_any (n : Int) (b c : Bool) (m : Int) (d e : Bool) (w : World) :
    Calls Try.prog 16 #[tyV (.int n b c) none, tyV (.int m d e) none] w (RComRes (tyV (.int (rN n m) (rS n m b d) (c || e)) none) w) := by
  rw [tyV_int, tyV_int]
  by_cases h4 : 4 < n
  · have HN := Lib.hid (show rN n m = 8 by unfold rN; rw [if_pos (.inl h4)])
    by_cases hn : n = 8
    · have e1 : (n == 8) = true := by simpa using hn
      clear hn
      cases b
      · have HS := Lib.hid (show rS n m false d = false by unfold rS; rw [HN.out]; simp [e1])
        cases c
        · go_enter Try.func16, Try.ntmps16
          go_wp2_with fail
          have hbw := Below.refl w.heap.size w
          refine bodyPost_ret (v := tyV (.int 8 false e) none) ?_ rfl ⟨by rw [HN.out, HS.out] <;> rfl, ?_⟩
          · rw [tyV_int]; simp [results, Try.results16, go_sem]
          · ((repeat (first | (with_reducible exact hbw) | (with_reducible apply Below.setCell) | (with_reducible apply Below.alloc))) <;> first | omega | (simp <;> omega))
        · go_enter Try.func16, Try.ntmps16
          go_wp2_with fail
          have hbw := Below.refl w.heap.size w
          refine bodyPost_ret (v := tyV (.int 8 false true) none) ?_ rfl ⟨by rw [HN.out, HS.out] <;> rfl, ?_⟩
          · rw [tyV_int]; simp [results, Try.results16, go_sem]
          · ((repeat (first | (with_reducible exact hbw) | (with_reducible apply Below.setCell) | (with_reducible apply Below.alloc))) <;> first | omega | (simp <;> omega))
      · by_cases hm : m = 8
        · have e2 : (m == 8) = true := by simpa using hm
          clear hm
          cases d
          · have HS := Lib.hid (show rS n m true false = false by unfold rS; rw [HN.out]; simp [e1, e2])
            cases c
            · go_enter Try.func16, Try.ntmps16
              go_wp2_with fail
              have hbw := Below.refl w.heap.size w
              refine bodyPost_ret (v := tyV (.int 8 false e) none) ?_ rfl ⟨by rw [HN.out, HS.out] <;> rfl, ?_⟩
              · rw [tyV_int]; simp [results, Try.results16, go_sem]
              · ((repeat (first | (with_reducible exact hbw) | (with_reducible apply Below.setCell) | (with_reducible apply Below.alloc))) <;> first | omega | (simp <;> omega))
            · go_enter Try.func16, Try.ntmps16
              go_wp2_with fail
              have hbw := Below.refl w.heap.size w
              refine bodyPost_ret (v := tyV (.int 8 false true) none) ?_ rfl ⟨by rw [HN.out, HS.out] <;> rfl, ?_⟩
              · rw [tyV_int]; simp [results, Try.results16, go_sem]
              · ((repeat (first | (with_reducible exact hbw) | (with_reducible apply Below.setCell) | (with_reducible apply Below.alloc))) <;> first | omega | (simp <;> omega))
          · have HS := Lib.hid (show rS n m true true = true by unfold rS; rw [HN.out]; simp [e1, e2])
            cases c
            · go_enter Try.func16, Try.ntmps16
              go_wp2_with fail
              have hbw := Below.refl w.heap.size w
              refine bodyPost_ret (v := tyV (.int 8 true e) none) ?_ rfl ⟨by rw [HN.out, HS.out] <;> rfl, ?_⟩
              · rw [tyV_int]; simp [results, Try.results16, go_sem]
              · ((repeat (first | (with_reducible exact hbw) | (with_reducible apply Below.setCell) | (with_reducible apply Below.alloc))) <;> first | omega | (simp <;> omega))
            · go_enter Try.func16, Try.ntmps16
              go_wp2_with fail
              have hbw := Below.refl w.heap.size w
              refine bodyPost_ret (v := tyV (.int 8 true true) none) ?_ rfl ⟨by rw [HN.out, HS.out] <;> rfl, ?_⟩
              · rw [tyV_int]; simp [results, Try.results16, go_sem]
              · ((repeat (first | (with_reducible exact hbw) | (with_reducible apply Below.setCell) | (with_reducible apply Below.alloc))) <;> first | omega | (simp <;> omega))
        · have e2 : (m == 8) = false := by simpa using hm
          clear hm
          have HS := Lib.hid (show rS n m true d = true by unfold rS; rw [HN.out]; simp [e1, e2])
          cases c
          · go_enter Try.func16, Try.ntmps16
            go_wp2_with fail
            have hbw := Below.refl w.heap.size w
            refine bodyPost_ret (v := tyV (.int 8 true e) none) ?_ rfl ⟨by rw [HN.out, HS.out] <;> rfl, ?_⟩
            · rw [tyV_int]; simp [results, Try.results16, go_sem]
            · ((repeat (first | (with_reducible exact hbw) | (with_reducible apply Below.setCell) | (with_reducible apply Below.alloc))) <;> first | omega | (simp <;> omega))
          · go_enter Try.func16, Try.ntmps16
            go_wp2_with fail
            have hbw := Below.refl w.heap.size w
            refine bodyPost_ret (v := tyV (.int 8 true true) none) ?_ rfl ⟨by rw [HN.out, HS.out] <;> rfl, ?_⟩
            · rw [tyV_int]; simp [results, Try.results16, go_sem]
            · ((repeat (first | (with_reducible exact hbw) | (with_reducible apply Below.setCell) | (with_reducible apply Below.alloc))) <;> first | omega | (simp <;> omega))
    · have e1 : (n == 8) = false := by simpa using hn
      clear hn
      by_cases hm : m = 8
      · have e2 : (m == 8) = true := by simpa using hm
        clear hm
        cases d
        · have HS := Lib.hid (show rS n m b false = false by unfold rS; rw [HN.out]; simp [e1, e2])
          cases c
          · go_enter Try.func16, Try.ntmps16
            go_wp2_with fail
            have hbw := Below.refl w.heap.size w
            refine bodyPost_ret (v := tyV (.int 8 false e) none) ?_ rfl ⟨by rw [HN.out, HS.out] <;> rfl, ?_⟩
            · rw [tyV_int]; simp [results, Try.results16, go_sem]
            · ((repeat (first | (with_reducible exact hbw) | (with_reducible apply Below.setCell) | (with_reducible apply Below.alloc))) <;> first | omega | (simp <;> omega))
          · go_enter Try.func16, Try.ntmps16
            go_wp2_with fail
            have hbw := Below.refl w.heap.size w
            refine bodyPost_ret (v := tyV (.int 8 false true) none) ?_ rfl ⟨by rw [HN.out, HS.out] <;> rfl, ?_⟩
            · rw [tyV_int]; simp [results, Try.results16, go_sem]
            · ((repeat (first | (with_reducible exact hbw) | (with_reducible apply Below.setCell) | (with_reducible apply Below.alloc))) <;> first | omega | (simp <;> omega))
        · have HS := Lib.hid (show rS n m b true = true by unfold rS; rw [HN.out]; simp [e1, e2])
          cases c
          · go_enter Try.func16, Try.ntmps16
            go_wp2_with fail
            have hbw := Below.refl w.heap.size w
            refine bodyPost_ret (v := tyV (.int 8 true e) none) ?_ rfl ⟨by rw [HN.out, HS.out] <;> rfl, ?_⟩
            · rw [tyV_int]; simp [results, Try.results16, go_sem]
            · ((repeat (first | (with_reducible exact hbw) | (with_reducible apply Below.setCell) | (with_reducible apply Below.alloc))) <;> first | omega | (simp <;> omega))
          · go_enter Try.func16, Try.ntmps16
            go_wp2_with fail
            have hbw := Below.refl w.heap.size w
            refine bodyPost_ret (v := tyV (.int 8 true true) none) ?_ rfl ⟨by rw [HN.out, HS.out] <;> rfl, ?_⟩
            · rw [tyV_int]; simp [results, Try.results16, go_sem]
            · ((repeat (first | (with_reducible exact hbw) | (with_reducible apply Below.setCell) | (with_reducible apply Below.alloc))) <;> first | omega | (simp <;> omega))
      · have e2 : (m == 8) = false := by simpa using hm
        clear hm
        have HS := Lib.hid (show rS n m b d = true by unfold rS; rw [HN.out]; simp [e1, e2])
        cases c
        · go_enter Try.func16, Try.ntmps16
          go_wp2_with fail
          have hbw := Below.refl w.heap.size w
          refine bodyPost_ret (v := tyV (.int 8 true e) none) ?_ rfl ⟨by rw [HN.out, HS.out] <;> rfl, ?_⟩
          · rw [tyV_int]; simp [results, Try.results16, go_sem]
          · ((repeat (first | (with_reducible exact hbw) | (with_reducible apply Below.setCell) | (with_reducible apply Below.alloc))) <;> first | omega | (simp <;> omega))
        · go_enter Try.func16, Try.ntmps16
          go_wp2_with fail
          have hbw := Below.refl w.heap.size w
          refine bodyPost_ret (v := tyV (.int 8 true true) none) ?_ rfl ⟨by rw [HN.out, HS.out] <;> rfl, ?_⟩
          · rw [tyV_int]; simp [results, Try.results16, go_sem]
          · ((repeat (first | (with_reducible exact hbw) | (with_reducible apply Below.setCell) | (with_reducible apply Below.alloc))) <;> first | omega | (simp <;> omega))
  · by_cases h5 : 4 < m
    · have HN := Lib.hid (show rN n m = 8 by unfold rN; rw [if_pos (.inr h5)])
      by_cases hn : n = 8
      · have e1 : (n == 8) = true := by simpa using hn
        clear hn
        cases b
        · have HS := Lib.hid (show rS n m false d = false by unfold rS; rw [HN.out]; simp [e1])
          cases c
          · go_enter Try.func16, Try.ntmps16
            go_wp2_with fail
            have hbw := Below.refl w.heap.size w
            refine bodyPost_ret (v := tyV (.int 8 false e) none) ?_ rfl ⟨by rw [HN.out, HS.out] <;> rfl, ?_⟩
            · rw [tyV_int]; simp [results, Try.results16, go_sem]
            · ((repeat (first | (with_reducible exact hbw) | (with_reducible apply Below.setCell) | (with_reducible apply Below.alloc))) <;> first | omega | (simp <;> omega))
          · go_enter Try.func16, Try.ntmps16
            go_wp2_with fail
            have hbw := Below.refl w.heap.size w
            refine bodyPost_ret (v := tyV (.int 8 false true) none) ?_ rfl ⟨by rw [HN.out, HS.out] <;> rfl, ?_⟩
            · rw [tyV_int]; simp [results, Try.results16, go_sem]
            · ((repeat (first | (with_reducible exact hbw) | (with_reducible apply Below.setCell) | (with_reducible apply Below.alloc))) <;> first | omega | (simp <;> omega))
        · by_cases hm : m = 8
          · have e2 : (m == 8) = true := by simpa using hm
            clear hm
            cases d
            · have HS := Lib.hid (show rS n m true false = false by unfold rS; rw [HN.out]; simp [e1, e2])
              cases c
              · go_enter Try.func16, Try.ntmps16
                go_wp2_with fail
                have hbw := Below.refl w.heap.size w
                refine bodyPost_ret (v := tyV (.int 8 false e) none) ?_ rfl ⟨by rw [HN.out, HS.out] <;> rfl, ?_⟩
                · rw [tyV_int]; simp [results, Try.results16, go_sem]
                · ((repeat (first | (with_reducible exact hbw) | (with_reducible apply Below.setCell) | (with_reducible apply Below.alloc))) <;> first | omega | (simp <;> omega))
              · go_enter Try.func16, Try.ntmps16
                go_wp2_with fail
                have hbw := Below.refl w.heap.size w
                refine bodyPost_ret (v := tyV (.int 8 false true) none) ?_ rfl ⟨by rw [HN.out, HS.out] <;> rfl, ?_⟩
                · rw [tyV_int]; simp [results, Try.results16, go_sem]
                · ((repeat (first | (with_reducible exact hbw) | (with_reducible apply Below.setCell) | (with_reducible apply Below.alloc))) <;> first | omega | (simp <;> omega))
            · have HS := Lib.hid (show rS n m true true = true by unfold rS; rw [HN.out]; simp [e1, e2])
              cases c
              · go_enter Try.func16, Try.ntmps16
                go_wp2_with fail
                have hbw := Below.refl w.heap.size w
                refine bodyPost_ret (v := tyV (.int 8 true e) none) ?_ rfl ⟨by rw [HN.out, HS.out] <;> rfl, ?_⟩
                · rw [tyV_int]; simp [results, Try.results16, go_sem]
                · ((repeat (first | (with_reducible exact hbw) | (with_reducible apply Below.setCell) | (with_reducible apply Below.alloc))) <;> first | omega | (simp <;> omega))
              · go_enter Try.func16, Try.ntmps16
                go_wp2_with fail
                have hbw := Below.refl w.heap.size w
                refine bodyPost_ret (v := tyV (.int 8 true true) none) ?_ rfl ⟨by rw [HN.out, HS.out] <;> rfl, ?_⟩
                · rw [tyV_int]; simp [results, Try.results16, go_sem]
                · ((repeat (first | (with_reducible exact hbw) | (with_reducible apply Below.setCell) | (with_reducible apply Below.alloc))) <;> first | omega | (simp <;> omega))
          · have e2 : (m == 8) = false := by simpa using hm
            clear hm
            have HS := Lib.hid (show rS n m true d = true by unfold rS; rw [HN.out]; simp [e1, e2])
            cases c
            · go_enter Try.func16, Try.ntmps16
              go_wp2_with fail
              have hbw := Below.refl w.heap.size w
              refine bodyPost_ret (v := tyV (.int 8 true e) none) ?_ rfl ⟨by rw [HN.out, HS.out] <;> rfl, ?_⟩
              · rw [tyV_int]; simp [results, Try.results16, go_sem]
              · ((repeat (first | (with_reducible exact hbw) | (with_reducible apply Below.setCell) | (with_reducible apply Below.alloc))) <;> first | omega | (simp <;> omega))
            · go_enter Try.func16, Try.ntmps16
              go_wp2_with fail
              have hbw := Below.refl w.heap.size w
              refine bodyPost_ret (v := tyV (.int 8 true true) none) ?_ rfl ⟨by rw [HN.out, HS.out] <;> rfl, ?_⟩
              · rw [tyV_int]; simp [results, Try.results16, go_sem]
              · ((repeat (first | (with_reducible exact hbw) | (with_reducible apply Below.setCell) | (with_reducible apply Below.alloc))) <;> first | omega | (simp <;> omega))
      · have e1 : (n == 8) = false := by simpa using hn
        clear hn
        by_cases hm : m = 8
        · have e2 : (m == 8) = true := by simpa using hm
          clear hm
          cases d
          · have HS := Lib.hid (show rS n m b false = false by unfold rS; rw [HN.out]; simp [e1, e2])
            cases c
            · go_enter Try.func16, Try.ntmps16
              go_wp2_with fail
              have hbw := Below.refl w.heap.size w
              refine bodyPost_ret (v := tyV (.int 8 false e) none) ?_ rfl ⟨by rw [HN.out, HS.out] <;> rfl, ?_⟩
              · rw [tyV_int]; simp [results, Try.results16, go_sem]
              · ((repeat (first | (with_reducible exact hbw) | (with_reducible apply Below.setCell) | (with_reducible apply Below.alloc))) <;> first | omega | (simp <;> omega))
            · go_enter Try.func16, Try.ntmps16
              go_wp2_with fail
              have hbw := Below.refl w.heap.size w
              refine bodyPost_ret (v := tyV (.int 8 false true) none) ?_ rfl ⟨by rw [HN.out, HS.out] <;> rfl, ?_⟩
              · rw [tyV_int]; simp [results, Try.results16, go_sem]
              · ((repeat (first | (with_reducible exact hbw) | (with_reducible apply Below.setCell) | (with_reducible apply Below.alloc))) <;> first | omega | (simp <;> omega))
          · have HS := Lib.hid (show rS n m b true = true by unfold rS; rw [HN.out]; simp [e1, e2])
            cases c
            · go_enter Try.func16, Try.ntmps16
              go_wp2_with fail
              have hbw := Below.refl w.heap.size w
              refine bodyPost_ret (v := tyV (.int 8 true e) none) ?_ rfl ⟨by rw [HN.out, HS.out] <;> rfl, ?_⟩
              · rw [tyV_int]; simp [results, Try.results16, go_sem]
              · ((repeat (first | (with_reducible exact hbw) | (with_reducible apply Below.setCell) | (with_reducible apply Below.alloc))) <;> first | omega | (simp <;> omega))
            · go_enter Try.func16, Try.ntmps16
              go_wp2_with fail
              have hbw := Below.refl w.heap.size w
              refine bodyPost_ret (v := tyV (.int 8 true true) none) ?_ rfl ⟨by rw [HN.out, HS.out] <;> rfl, ?_⟩
              · rw [tyV_int]; simp [results, Try.results16, go_sem]
              · ((repeat (first | (with_reducible exact hbw) | (with_reducible apply Below.setCell) | (with_reducible apply Below.alloc))) <;> first | omega | (simp <;> omega))
        · have e2 : (m == 8) = false := by simpa using hm
          clear hm
          have HS := Lib.hid (show rS n m b d = true by unfold rS; rw [HN.out]; simp [e1, e2])
          cases c
          · go_enter Try.func16, Try.ntmps16
            go_wp2_with fail
            have hbw := Below.refl w.heap.size w
            refine bodyPost_ret (v := tyV (.int 8 true e) none) ?_ rfl ⟨by rw [HN.out, HS.out] <;> rfl, ?_⟩
            · rw [tyV_int]; simp [results, Try.results16, go_sem]
            · ((repeat (first | (with_reducible exact hbw) | (with_reducible apply Below.setCell) | (with_reducible apply Below.alloc))) <;> first | omega | (simp <;> omega))
          · go_enter Try.func16, Try.ntmps16
            go_wp2_with fail
            have hbw := Below.refl w.heap.size w
            refine bodyPost_ret (v := tyV (.int 8 true true) none) ?_ rfl ⟨by rw [HN.out, HS.out] <;> rfl, ?_⟩
            · rw [tyV_int]; simp [results, Try.results16, go_sem]
            · ((repeat (first | (with_reducible exact hbw) | (with_reducible apply Below.setCell) | (with_reducible apply Below.alloc))) <;> first | omega | (simp <;> omega))
    · have HN := Lib.hid (show rN n m = 4 by unfold rN; rw [if_neg (by omega)])
      by_cases hn : n = 4
      · have e1 : (n == 4) = true := by simpa using hn
        clear hn
        cases b
        · have HS := Lib.hid (show rS n m false d = false by unfold rS; rw [HN.out]; simp [e1])
          cases c
          · go_enter Try.func16, Try.ntmps16
            go_wp2_with fail
            have hbw := Below.refl w.heap.size w
            refine bodyPost_ret (v := tyV (.int 4 false e) none) ?_ rfl ⟨by rw [HN.out, HS.out] <;> rfl, ?_⟩
            · rw [tyV_int]; simp [results, Try.results16, go_sem]
            · ((repeat (first | (with_reducible exact hbw) | (with_reducible apply Below.setCell) | (with_reducible apply Below.alloc))) <;> first | omega | (simp <;> omega))
          · go_enter Try.func16, Try.ntmps16
            go_wp2_with fail
            have hbw := Below.refl w.heap.size w
            refine bodyPost_ret (v := tyV (.int 4 false true) none) ?_ rfl ⟨by rw [HN.out, HS.out] <;> rfl, ?_⟩
            · rw [tyV_int]; simp [results, Try.results16, go_sem]
            · ((repeat (first | (with_reducible exact hbw) | (with_reducible apply Below.setCell) | (with_reducible apply Below.alloc))) <;> first | omega | (simp <;> omega))
        · by_cases hm : m = 4
          · have e2 : (m == 4) = true := by simpa using hm
            clear hm
            cases d
            · have HS := Lib.hid (show rS n m true false = false by unfold rS; rw [HN.out]; simp [e1, e2])
              cases c
              · go_enter Try.func16, Try.ntmps16
                go_wp2_with fail
                have hbw := Below.refl w.heap.size w
                refine bodyPost_ret (v := tyV (.int 4 false e) none) ?_ rfl ⟨by rw [HN.out, HS.out] <;> rfl, ?_⟩
                · rw [tyV_int]; simp [results, Try.results16, go_sem]
                · ((repeat (first | (with_reducible exact hbw) | (with_reducible apply Below.setCell) | (with_reducible apply Below.alloc))) <;> first | omega | (simp <;> omega))
              · go_enter Try.func16, Try.ntmps16
                go_wp2_with fail
                have hbw := Below.refl w.heap.size w
                refine bodyPost_ret (v := tyV (.int 4 false true) none) ?_ rfl ⟨by rw [HN.out, HS.out] <;> rfl, ?_⟩
                · rw [tyV_int]; simp [results, Try.results16, go_sem]
                · ((repeat (first | (with_reducible exact hbw) | (with_reducible apply Below.setCell) | (with_reducible apply Below.alloc))) <;> first | omega | (simp <;> omega))
            · have HS := Lib.hid (show rS n m true true = true by unfold rS; rw [HN.out]; simp [e1, e2])
              cases c
              · go_enter Try.func16, Try.ntmps16
                go_wp2_with fail
                have hbw := Below.refl w.heap.size w
                refine bodyPost_ret (v := tyV (.int 4 true e) none) ?_ rfl ⟨by rw [HN.out, HS.out] <;> rfl, ?_⟩
                · rw [tyV_int]; simp [results, Try.results16, go_sem]
                · ((repeat (first | (with_reducible exact hbw) | (with_reducible apply Below.setCell) | (with_reducible apply Below.alloc))) <;> first | omega | (simp <;> omega))
              · go_enter Try.func16, Try.ntmps16
                go_wp2_with fail
                have hbw := Below.refl w.heap.size w
                refine bodyPost_ret (v := tyV (.int 4 true true) none) ?_ rfl ⟨by rw [HN.out, HS.out] <;> rfl, ?_⟩
                · rw [tyV_int]; simp [results, Try.results16, go_sem]
                · ((repeat (first | (with_reducible exact hbw) | (with_reducible apply Below.setCell) | (with_reducible apply Below.alloc))) <;> first | omega | (simp <;> omega))
          · have e2 : (m == 4) = false := by simpa using hm
            clear hm
            have HS := Lib.hid (show rS n m true d = true by unfold rS; rw [HN.out]; simp [e1, e2])
            cases c
            · go_enter Try.func16, Try.ntmps16
              go_wp2_with fail
              have hbw := Below.refl w.heap.size w
              refine bodyPost_ret (v := tyV (.int 4 true e) none) ?_ rfl ⟨by rw [HN.out, HS.out] <;> rfl, ?_⟩
              · rw [tyV_int]; simp [results, Try.results16, go_sem]
              · ((repeat (first | (with_reducible exact hbw) | (with_reducible apply Below.setCell) | (with_reducible apply Below.alloc))) <;> first | omega | (simp <;> omega))
            · go_enter Try.func16, Try.ntmps16
              go_wp2_with fail
              have hbw := Below.refl w.heap.size w
              refine bodyPost_ret (v := tyV (.int 4 true true) none) ?_ rfl ⟨by rw [HN.out, HS.out] <;> rfl, ?_⟩
              · rw [tyV_int]; simp [results, Try.results16, go_sem]
              · ((repeat (first | (with_reducible exact hbw) | (with_reducible apply Below.setCell) | (with_reducible apply Below.alloc))) <;> first | omega | (simp <;> omega))
      · have e1 : (n == 4) = false := by simpa using hn
        clear hn
        by_cases hm : m = 4
        · have e2 : (m == 4) = true := by simpa using hm
          clear hm
          cases d
          · have HS := Lib.hid (show rS n m b false = false by unfold rS; rw [HN.out]; simp [e1, e2])
            cases c
            · go_enter Try.func16, Try.ntmps16
              go_wp2_with fail
              have hbw := Below.refl w.heap.size w
              refine bodyPost_ret (v := tyV (.int 4 false e) none) ?_ rfl ⟨by rw [HN.out, HS.out] <;> rfl, ?_⟩
              · rw [tyV_int]; simp [results, Try.results16, go_sem]
              · ((repeat (first | (with_reducible exact hbw) | (with_reducible apply Below.setCell) | (with_reducible apply Below.alloc))) <;> first | omega | (simp <;> omega))
            · go_enter Try.func16, Try.ntmps16
              go_wp2_with fail
              have hbw := Below.refl w.heap.size w
              refine bodyPost_ret (v := tyV (.int 4 false true) none) ?_ rfl ⟨by rw [HN.out, HS.out] <;> rfl, ?_⟩
              · rw [tyV_int]; simp [results, Try.results16, go_sem]
              · ((repeat (first | (with_reducible exact hbw) | (with_reducible apply Below.setCell) | (with_reducible apply Below.alloc))) <;> first | omega | (simp <;> omega))
          · have HS := Lib.hid (show rS n m b true = true by unfold rS; rw [HN.out]; simp [e1, e2])
            cases c
            · go_enter Try.func16, Try.ntmps16
              go_wp2_with fail
              have hbw := Below.refl w.heap.size w
              refine bodyPost_ret (v := tyV (.int 4 true e) none) ?_ rfl ⟨by rw [HN.out, HS.out] <;> rfl, ?_⟩
              · rw [tyV_int]; simp [results, Try.results16, go_sem]
              · ((repeat (first | (with_reducible exact hbw) | (with_reducible apply Below.setCell) | (with_reducible apply Below.alloc))) <;> first | omega | (simp <;> omega))
            · go_enter Try.func16, Try.ntmps16
              go_wp2_with fail
              have hbw := Below.refl w.heap.size w
              refine bodyPost_ret (v := tyV (.int 4 true true) none) ?_ rfl ⟨by rw [HN.out, HS.out] <;> rfl, ?_⟩
              · rw [tyV_int]; simp [results, Try.results16, go_sem]
              · ((repeat (first | (with_reducible exact hbw) | (with_reducible apply Below.setCell) | (with_reducible apply Below.alloc))) <;> first | omega | (simp <;> omega))
        · have e2 : (m == 4) = false := by simpa using hm
          clear hm
          have HS := Lib.hid (show rS n m b d = true by unfold rS; rw [HN.out]; simp [e1, e2])
          cases c
          · go_enter Try.func16, Try.ntmps16
            go_wp2_with fail
            have hbw := Below.refl w.heap.size w
            refine bodyPost_ret (v := tyV (.int 4 true e) none) ?_ rfl ⟨by rw [HN.out, HS.out] <;> rfl, ?_⟩
            · rw [tyV_int]; simp [results, Try.results16, go_sem]
            · ((repeat (first | (with_reducible exact hbw) | (with_reducible apply Below.setCell) | (with_reducible apply Below.alloc))) <;> first | omega | (simp <;> omega))
          · go_enter Try.func16, Try.ntmps16
            go_wp2_with fail
            have hbw := Below.refl w.heap.size w
            refine bodyPost_ret (v := tyV (.int 4 true true) none) ?_ rfl ⟨by rw [HN.out, HS.out] <;> rfl, ?_⟩
            · rw [tyV_int]; simp [results, Try.results16, go_sem]
            · ((repeat (first | (with_reducible exact hbw) | (with_reducible apply Below.setCell) | (with_reducible apply Below.alloc))) <;> first | omega | (simp <;> omega))
end Go.Proofs.Ytilkjanlacfcgaa
