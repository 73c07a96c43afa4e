import Derived.Test.YtoajcggiccfaiaaDoorCtF
namespace Go.Proofs.YtoajcggiccfaiaaDoor
open Go Go.RowKit

def sameT : Ty → Ty → Bool
  | .void, .void => true
  | .int n b c, .int m d e => n == m && (b == d && c == e)
  | .ptr t, .ptr u => sameT t u
  | .arr t n, .arr u m => n == m && sameT t u
  | .st k, .st l => k == l
  | _, _ => false

def BoolRes (r : Bool) (w : World) (e : Ending) (w' : World) : Prop := e = .returned (.bool r) ∧ Below w.heap.size w w'

structure Boxes (w W : World) (t u : Ty) (a b : Option Addr) : Prop where
  s : W.heap.size = w.heap.size + 2
  l : Below w.heap.size w W
  a : Cells9 W w.heap.size 0 t a
  b : Cells9 W (w.heap.size + 1) 0 u b

theorem boxes_mk (w : World) (t u : Ty) (a b : Option Addr) (x y : TypeId) : Boxes w ((w.alloc (.cells #[.int .i64 t.kind, .int .i64 t.size, .bool t.sg, .bool t.sc, .pointer a, .int .i64 t.len, .int .i64 t.num, .slice none 0 0, .pointer none] x)).alloc (.cells #[.int .i64 u.kind, .int .i64 u.size, .bool u.sg, .bool u.sc, .pointer b, .int .i64 u.len, .int .i64 u.num, .slice none 0 0, .pointer none] y)) t u a b := by
  refine ⟨by simp, ((Below.refl _ _).alloc (Nat.le_refl _) _).alloc (by simp) _, (cells9_alloc w t a x).alloc (by simp) _, cells9_at _ _ (by simp) _ _ _⟩

end Go.Proofs.YtoajcggiccfaiaaDoor
