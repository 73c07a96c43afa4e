import Derived.Test.YtlfpeoeopkkpgaaDoorLexT
import Derived.Laws.OwnMore
namespace Go.Proofs.YtlfpeoeopkkpgaaDoor
open Go Go.RowKit

/-! ### the texts of LexLimits, by the model alone -/
theorem hasPrefix_cons (c : UInt8) (a b : UInt8) (l : List UInt8) (h : c ≠ a) : Lib.hasPrefix (c :: l) [a, b] = false := by
  unfold Lib.hasPrefix
  simp [List.isPrefixOf]
  intro h2; exact absurd h2.symm h
theorem blank_sp (l : List UInt8) : blank (32 :: l) = 1 := by
  unfold blank
  rw [hasPrefix_cons 32 47 47 l (by decide), hasPrefix_cons 32 47 42 l (by decide)]
  rfl
theorem blanksF_sp : ∀ (f m : Nat), m < f → blanksF f (List.replicate m 32) = m := by
  intro f
  induction f with
  | zero => intro m h; omega
  | succ f ih =>
    intro m h
    cases m with
    | zero => exact blanksF_zero _ _ (by decide)
    | succ m =>
      rw [List.replicate_succ, blanksF_succ _ _ (by rw [blank_sp]; omega), blank_sp]
      show 1 + blanksF f (List.replicate m 32) = m + 1
      rw [ih m (by omega)]; omega
theorem scan_sp (m : Nat) (h : m ≤ 16384) : scanM (List.replicate m 32) = .ok [{ kind := 0, text := [], at_ := m, value := 0, uns := false, long := false }] := by
  have hb : blanks (List.replicate m 32) = m := by
    unfold blanks; exact blanksF_sp _ _ (by rw [List.length_replicate]; omega)
  unfold scanM
  rw [List.length_replicate, if_neg (by omega), hb, List.drop_eq_nil_of_le (by rw [List.length_replicate]; omega), scanF_nil]
theorem scan_big (m : Nat) (h : 16384 < m) : scanM (List.replicate m 32) = .size := by
  unfold scanM
  rw [List.length_replicate, if_pos h]

theorem own_bytes {w : World} {base : Nat} {n : Nat} {b : UInt8} {g : Nat} (h : w.ownsRow base 5 1 (.slice (some ⟨g, 0, none⟩) n n) n (List.replicate n (.int .u8 b.toNat))) :
    (convert 37 9 (.slice (some ⟨g, 0, none⟩) n n)).run Tryd.prog w = .ok (.string (B (List.replicate n b))) w := by
  have hh := run_convert_bytes_back (P := Tryd.prog) w 37 9 5 ⟨g, 0, none⟩ n (List.replicate n b) Tryd.underlying37 Tryd.underlying5 Tryd.underlying9 (fun j hj => by
    rw [List.length_replicate] at hj
    have e : (⟨g, 0, none⟩ : Addr).add j = ⟨g, j, none⟩ := by unfold Addr.add; split <;> simp_all
    rw [e, h.cellAt j (by omega)]
    simp [hj])
  rw [List.length_replicate] at hh
  exact hh

theorem fill_set (k m : Nat) (h : k < m) (a z : Value) : (List.replicate k a ++ List.replicate (m - k) z).set k a = List.replicate (k + 1) a ++ List.replicate (m - (k + 1)) z := by
  obtain ⟨d, rfl⟩ : ∃ d, m = k + (d + 1) := ⟨m - k - 1, by omega⟩
  rw [show k + (d + 1) - k = d + 1 from by omega, show k + (d + 1) - (k + 1) = d from by omega, List.set_append_right _ _ (by simp)]
  rw [List.length_replicate, Nat.sub_self, List.replicate_succ' (n := k), List.append_assoc]
  rfl
theorem fill_get (k m : Nat) (h : k < m) (a z : Value) : (List.replicate k a ++ List.replicate (m - k) z)[k]? = some z := by
  rw [List.getElem?_append_right (by simp), List.length_replicate, Nat.sub_self, List.getElem?_replicate, if_pos (by omega)]
theorem G.size {w : World} (h : G w) : 2 < w.heap.size := by
  obtain ⟨te, pe, hr⟩ := h.rng
  exact World.block_lt_of_cell? w _ hr
theorem G.low {B : Nat} {w w' : World} (h : G w) (hb : Below B w w') (hB : 2 < B) : G w' := by
  obtain ⟨⟨m, hm⟩, ⟨te, pe, hs⟩, ⟨te', pe', hr⟩⟩ := h
  have h0 : 0 < B := by omega
  have h1 : 1 < B := by omega
  exact ⟨⟨m, (hb.cell (p := ⟨0, 0, none⟩) h0).trans hm⟩, ⟨te, pe, (hb.cell (p := ⟨1, 0, none⟩) h1).trans hs⟩, ⟨te', pe', (hb.cell (p := ⟨2, 0, none⟩) hB).trans hr⟩⟩

theorem infoU8 : (Tryd.prog.info? 5).map (fun i => (i.zero, i.size, i.bytes)) = some (some (.int .u8 0), 1, 1) := by kernel_rfl
end Go.Proofs.YtlfpeoeopkkpgaaDoor
