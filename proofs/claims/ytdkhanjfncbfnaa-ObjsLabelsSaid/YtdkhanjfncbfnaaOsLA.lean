import Derived.Test.YtdkhanjfncbfnaaCtCI
import Derived.Test.YtdkhanjfncbfnaaCtCN
import Derived.Test.YtdkhanjfncbfnaaOsI
namespace Go.Proofs.Ytdkhanjfncbfnaa
open Go Go.RowKit
set_option linter.unusedVariables false
set_option linter.unusedSimpArgs false

def FieldsBut (z n : Nat) (NM : Nat → ByteArray) (TY : Nat → Ty) (AT : Nat → Int) (w : World) (e : Ending) (w' : World) : Prop :=
  ∃ g c EL, e = .returned (.slice (some ⟨g, 0, none⟩) n c) ∧ GRow w' g n NM TY EL AT ∧ (∀ i, i < n → ElIn w' (fun b => b < w'.heap.size ∧ b ≠ z) (TY i) (EL i)) ∧ g < w'.heap.size ∧ w.heap.size ≤ g ∧ Below w.heap.size w w'
set_option maxRecDepth 100000 in
set_option maxHeartbeats 8000000 in
theorem fields_but (z tb rb N rc : Nat) (hN : N ≤ 1000000) (a : Option Addr) (SN : Nat → ByteArray) (FA : Nat → Option Addr) (FN FC : Nat → Nat) (SZ AL : Nat → Int) (k : Nat) (hk : k < N) (g n : Nat) (hfa : FA k = some ⟨g, 0, none⟩) (hfn : FN k = n) (hn1 : 1 ≤ n) (hn : n ≤ 20) (NM : Nat → ByteArray) (TY : Nat → Ty) (EL : Nat → Option Addr) (AT : Nat → Int) (w : World) (h : TabN w tb rb N rc a SN FA FN FC SZ AL) (hg : g < w.heap.size) (hr : GRow w g n NM TY EL AT) (hz : z < w.heap.size) (hel : ∀ i, i < n → ElIn w (fun b => b < w.heap.size ∧ b ≠ z) (TY i) (EL i)) :
    Calls Try.prog 44 #[.pointer (some ⟨tb, 0, none⟩), .int .i64 k] w (FieldsBut z n NM TY AT w) := by
  have k0 := World.block_lt_of_cell? w _ h.t
  simp at k0
  have hrec := record_in tb rb N rc hN a SN FA FN FC SZ AL k hk w h
  rw [hfa, hfn] at hrec
  have HREC := Lib.hid hrec
  have HR := Lib.hid hr
  have HEL := Lib.hid hel
  clear h hr hel hrec hfa hfn
  go_enter Try.func44, Try.ntmps44
  go_wp2_with (first
    | (go_at_call 41
       refine HREC.out.mono ?_
       rintro e w1 ⟨rfl, hb⟩
       have HB1 := Lib.hid hb
       have hb2 : Below w.heap.size w (w1.alloc (.cells #[.string (SN k), .slice (some ⟨g, 0, none⟩) n (FC k), .int .i64 (SZ k), .int .i64 (AL k)] 110)) := hb.alloc hb.size _
       have HB2 := Lib.hid hb2
       clear hb hb2)
    | (go_at_call 61
       (with_reducible refine (cloneF_any g (FC k) n hn1 hn NM TY EL AT _ (Nat.lt_of_lt_of_le hg HB2.out.size) (HR.out.below HB2.out hg)).mono ?_)
       rintro e w2 ⟨g', c', rfl, hown, hb⟩
       have HO := Lib.hid hown
       have HB3 : Hid (Below w.heap.size w w2) := Lib.hid (HB2.out.trans (hb.mono HB2.out.size))
       have HGB : Hid (w.heap.size ≤ g') := Lib.hid (by have h1 := (hown.lt g' rfl).1; have h2 := HB2.out.size; omega)
       clear hown hb))
  have hgl : g' < w2.heap.size := (HO.out.lt g' rfl).2
  have HFZ := Lib.hid (fun j => World.ownsRow.frozenAt HO.out j)
  go_loopw [21] (fun vi wr => ∃ (i : Nat) (EL' : Nat → Option Addr), vi = .int .i64 i ∧ i ≤ n ∧ Below w.heap.size w wr ∧ g' < wr.heap.size ∧ (∀ j, wr.frozen? ⟨g', j, none⟩ = false) ∧ GRow wr g' n NM TY EL' AT ∧ ∀ j, j < n → ElIn wr (fun b => b ≠ g' ∧ b < wr.heap.size ∧ b ≠ z) (TY j) (EL' j)) (fun vi _ => n - (intOf vi).toNat)
  case atStart =>
    refine ⟨0, EL, rfl, by omega, HB3.out, hgl, HFZ.out, grow_of_owns HO.out, fun j hj => ?_⟩
    refine ElIn.keep (P := fun b => b < w.heap.size ∧ b ≠ z) (fun b hb o => HB3.out.cell (p := ⟨b, o, none⟩) hb.1) (fun b hb => ?_) (HEL.out j hj)
    have h1 := HGB.out
    have h2 := HB3.out.size
    exact ⟨by omega, by omega, hb.2⟩
  case round =>
    obtain ⟨i, EL', rfl, hi, hb, hgr, hfz, hgrow, hels⟩ := hrel
    have HB4 := Lib.hid hb
    have HGR := Lib.hid hgrow
    have HELS := Lib.hid hels
    have HFZR := Lib.hid hfz
    by_cases hlt : i < n
    · obtain ⟨h0, h1, h2, h3, h4, h5, h6, h7, h8, h9, h10⟩ := hgrow i hlt
      have hFR := fun w h => fresh_any (TY i) (EL' i) w h
      unfold tyV at hFR
      have HFR := Lib.hid hFR
      have hil : (i : Int) < n := by omega
      clear hb hgrow hels hfz hFR
      go_wp2_with (go_at_call 42
                   (with_reducible refine (HFR.out _ (((HELS.out i hlt).elAt.alloc (Nat.le_refl _) _).mono (Nat.le_refl _) (by simp))).mono ?_)
                   rintro e w3 ⟨el1, rfl, hel1, hb3⟩
                   have hb5 : Below wr.heap.size wr w3 := ((Below.refl _ _).alloc (Nat.le_refl _) _).trans (hb3.mono (by simp))
                   have HEL1 := Lib.hid hel1
                   have HB5 := Lib.hid hb5
                   have hg3 : g' < w3.heap.size := Nat.lt_of_lt_of_le hgr hb5.size
                   have hgr3 := HGR.out.below hb5 hgr
                   have HGR3 := Lib.hid hgr3
                   have hfz3 : ∀ j, w3.frozen? ⟨g', j, none⟩ = false := fun j => by rw [hb5.frozen (by exact hgr)]; exact HFZR.out j
                   have HFZ3 := Lib.hid hfz3
                   obtain ⟨_, p1, p2, p3, p4, p5, p6, p7, p8, p9, _⟩ := hgr3 i hlt
                   have q1 := hfz3 (i * 11 + 1)
                   have q2 := hfz3 (i * 11 + 2)
                   have q3 := hfz3 (i * 11 + 3)
                   have q4 := hfz3 (i * 11 + 4)
                   have q5 := hfz3 (i * 11 + 5)
                   have q6 := hfz3 (i * 11 + 6)
                   have q7 := hfz3 (i * 11 + 7)
                   have q8 := hfz3 (i * 11 + 8)
                   have q9 := hfz3 (i * 11 + 9)
                   clear hel1 hb3 hb5 hgr3 hfz3 h0 h1 h2 h3 h4 h5 h6 h7 h8 h9 h10
                   unfold tyV)
      go_roundw
      case rel =>
        have hset := grow_set HGR3.out hlt el1
        refine ⟨i + 1, fun k => if k = i then el1 else EL' k, by go_num, by omega, ?_, by simpa using hg3, ?_, hset, ?_⟩
        · have hbw := HB4.out.trans (HB5.out.mono HB4.out.size)
          have hgg := HGB.out
          ((repeat (first | (with_reducible exact hbw) | (with_reducible apply Below.setCell))) <;> first | omega | (simp <;> omega))
        · intro j
          have := HFZ3.out j
          simpa using this
        · intro j hj
          have hkp : ∀ b, b ≠ g' → ∀ o, (w3.setCells g' (i * 11 + 1) [.int .i64 (TY i).kind, .int .i64 (TY i).size, .bool (TY i).sg, .bool (TY i).sc, .pointer el1, .int .i64 (TY i).len, .int .i64 (TY i).num, .slice none 0 0, .pointer none]).cell? ⟨b, o, none⟩ = w3.cell? ⟨b, o, none⟩ := fun b hb o =>
            World.cell?_setCells_out g' _ _ w3 ⟨b, o, none⟩ (fun h _ => absurd h hb)
          have hsz5 := HB5.out.size
          by_cases hji : j = i
          · subst hji
            simp only [if_true]
            refine ElIn.keep (P := fun b => wr.heap.size ≤ b ∧ b < w3.heap.size) (fun b hb o => hkp b (by omega) o) (fun b hb => ⟨by omega, by simpa using hb.2, by have := HB4.out.size; omega⟩) (ElIn.of (fun b h1 h2 => ⟨by simp at h1; omega, h2⟩) HEL1.out)
          · simp only [if_neg hji]
            refine (HELS.out j hj).keep (fun b hb o => ?_) (fun b hb => ⟨hb.1, by have := hb.2.1; simp; omega, hb.2.2⟩)
            rw [← HB5.out.cell (p := ⟨b, o, none⟩) hb.2.1]
            exact hkp b hb.1 o
      case measure => simp [intOf]; omega
    · obtain rfl : i = n := by omega
      clear hb hgrow hels hfz
      go_wp2_with fail
      go_ret
      exact ⟨g', c', EL', rfl, HGR.out, fun j hj => (HELS.out j hj).mono (fun b hb => hb.2), hgr, HGB.out, HB4.out⟩

/-- A table's numbers. -/
structure Tb where
  tb : Nat
  rb : Nat
  n : Nat
  rc : Nat
  a : Option Addr
  SN : Nat → ByteArray
  FA : Nat → Option Addr
  FN : Nat → Nat
  FC : Nat → Nat
  SZ : Nat → Int
  AL : Nat → Int
  GP : Nat → Nat
  CT : Nat → Nat
  NM : Nat → Nat → ByteArray
  TY : Nat → Nat → Ty
  EL : Nat → Nat → Option Addr
/-- The table, all of it in blocks below hi. -/
structure TabK (T : Tb) (hi : Nat) (w : World) : Prop where
  t : TabN w T.tb T.rb T.n T.rc T.a T.SN T.FA T.FN T.FC T.SZ T.AL
  tl : T.tb < hi
  rl : 0 < T.n → T.rb < hi
  p : PRows w (fun b => b < hi) T.n T.FA T.FN T.GP T.CT T.NM T.TY T.EL T.SZ T.AL
  hl : hi ≤ w.heap.size
def LayT (T : Tb) : Prop := LayM T.n T.CT T.NM T.TY T.SZ T.AL
theorem TabK.keep {T : Tb} {hi : Nat} {w w' : World} (h : TabK T hi w) (hs : w.heap.size ≤ w'.heap.size) (hk : ∀ b, b < hi → w'.heap[b]? = w.heap[b]?) : TabK T hi w' := by
  have hc : ∀ b, b < hi → ∀ o, w'.cell? ⟨b, o, none⟩ = w.cell? ⟨b, o, none⟩ := fun b hb o => World.cell?_of_block (hk b hb)
  refine ⟨⟨by rw [hc _ h.tl]; exact h.t.t, h.t.a, fun hn => Nat.lt_of_lt_of_le (h.t.l hn) hs, fun k hk' => (h.t.r k hk').same (hc _ (h.rl (by omega)))⟩, h.tl, h.rl, h.p.keep (fun b hb o => hc b hb o) (fun b hb => hb), Nat.le_trans h.hl hs⟩
theorem TabK.below {T : Tb} {hi : Nat} {w w' : World} (h : TabK T hi w) (hb : Below w.heap.size w w') : TabK T hi w' :=
  h.keep hb.size (fun b hl => hb.block b (Nat.lt_of_lt_of_le hl h.hl))
theorem TabK.turn {T : Tb} {hi g : Nat} {w w' : World} (h : TabK T hi w) (ht : Turn g w w') (hg : hi ≤ g) : TabK T hi w' :=
  h.keep ht.size (fun b hl => ht.block b (Nat.lt_of_lt_of_le hl h.hl) (by omega))
/-- What lies behind a type's pointer, aside of block g. -/
def ElG (w : World) (g : Nat) (t : Ty) (el : Option Addr) : Prop := ElIn w (fun b => b < w.heap.size ∧ b ≠ g) t el
theorem ElG.below {w w' : World} {g : Nat} {t : Ty} {el : Option Addr} (h : ElG w g t el) (hb : Below w.heap.size w w') : ElG w' g t el :=
  ElIn.keep (fun b hp o => hb.cell (p := ⟨b, o, none⟩) hp.1) (fun b hp => ⟨Nat.lt_of_lt_of_le hp.1 hb.size, hp.2⟩) h
theorem ElG.turn {w w' : World} {g : Nat} {t : Ty} {el : Option Addr} (h : ElG w g t el) (ht : Turn g w w') : ElG w' g t el :=
  ElIn.keep (fun b hp o => ht.cell (a := ⟨b, o, none⟩) hp.1 hp.2) (fun b hp => ⟨Nat.lt_of_lt_of_le hp.1 ht.size, hp.2⟩) h
theorem LayT.sz {T : Tb} (h : LayT T) : ∀ k, k < T.n → 0 ≤ T.SZ k ∧ T.SZ k ≤ 1099511627776 := fun k hk => by
  have := (LayM.range h k hk).2
  omega
theorem size_k {T : Tb} {hi : Nat} (hl : LayT T) (t : Ty) (ok : OkT t) (el : Option Addr) (w : World) (h : TabK T hi w) (g : Nat) (he : ElG w g t el) :
    Calls Try.prog 16 #[.pointer (some ⟨T.tb, 0, none⟩), tyV t el] w (CIntRes (sizeM T.n T.SZ t) w) :=
  size_any T.tb T.rb T.n T.rc (by have := hl.n20; omega) T.a T.SN T.FA T.FN T.FC T.SZ T.AL hl.sz t ok el w h.t (ElIn.elAt he)
theorem fields_k {T : Tb} {hi : Nat} (hl : LayT T) (k : Nat) (hk : k < T.n) (w : World) (h : TabK T hi w) (g : Nat) (hg : hi ≤ g) (hgl : g < w.heap.size) :
    Calls Try.prog 44 #[.pointer (some ⟨T.tb, 0, none⟩), .int .i64 k] w (FieldsBut g (T.CT k) (T.NM k) (T.TY k) (offT k T.SZ T.AL (T.TY k)) w) := by
  obtain ⟨h1, h2, h3⟩ := h.p.a k hk
  have := hl.n20
  have hc := hl.c k hk
  exact fields_but g T.tb T.rb T.n T.rc (by omega) T.a T.SN T.FA T.FN T.FC T.SZ T.AL k hk (T.GP k) (T.CT k) h1 h2 hc.1 hc.2 (T.NM k) (T.TY k) (T.EL k) _ w h.t (Nat.lt_of_lt_of_le h3 h.hl) (h.p.r k hk) hgl (fun i hi' => (h.p.t k hk i hi').mono (fun b hb => ⟨Nat.lt_of_lt_of_le hb h.hl, by omega⟩))
end Go.Proofs.Ytdkhanjfncbfnaa
