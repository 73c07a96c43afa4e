/- The lexer's plain model: functions on lists of bytes, and their lemmas. No Go in sight. -/
import Derived.Lib.Strings
import Derived.Lib.Index
import Derived.Lib.Bytealg
import Derived.Lib.IndexBytes
namespace Go.Proofs.YtamimaoaafapbaaDoor
open Go

def letB (c : Int) : Bool := (decide (65 ≤ c) && decide (c ≤ 90)) || (decide (97 ≤ c) && decide (c ≤ 122)) || (c == 95)
def digB (c : Int) : Bool := decide (48 ≤ c) && decide (c ≤ 57)
def partB (c : Int) : Bool := letB c || digB c
def hexB (c : Int) : Bool := digB c || (decide (97 ≤ c) && decide (c ≤ 102)) || (decide (65 ≤ c) && decide (c ≤ 70))
def baseB (b c : Int) : Bool := if b = 16 then hexB c else digB c
def plainB (c : Int) : Bool := decide (32 ≤ c) && decide (c ≤ 126) && c != 39 && c != 92

def esc (c : Int) : Option Int := if c = 110 then some 10 else if c = 116 then some 9 else if c = 48 then some 0 else if c = 92 ∨ c = 39 then some c else none

def words : List (List UInt8) := [
  [98, 114, 101, 97, 107], [99, 97, 115, 101], [99, 104, 97, 114], [99, 111, 110, 116, 105, 110, 117, 101], [100, 101, 102, 97, 117, 108, 116], [100, 111], [101, 108, 115, 101], [102, 111, 114],
  [105, 102], [105, 110, 116], [108, 111, 110, 103], [112, 117, 98, 108, 105, 99], [114, 101, 116, 117, 114, 110], [115, 101, 99, 114, 101, 116], [115, 104, 111, 114, 116], [115, 105, 103, 110, 101, 100],
  [115, 105, 122, 101, 111, 102], [115, 116, 114, 117, 99, 116], [115, 119, 105, 116, 99, 104], [117, 110, 115, 105, 103, 110, 101, 100], [118, 111, 105, 100], [119, 104, 105, 108, 101]]
def signs : List (List UInt8) := [
  [60, 60, 61], [62, 62, 61],
  [45, 62], [43, 43], [45, 45], [60, 60], [62, 62], [60, 61], [62, 61], [61, 61], [33, 61], [38, 38], [124, 124],
  [43, 61], [45, 61], [42, 61], [47, 61], [37, 61], [38, 61], [124, 61], [94, 61],
  [43], [45], [42], [47], [37], [38], [124], [94], [126], [33], [60], [62], [61],
  [63], [58], [59], [44], [46], [40], [41], [91], [93], [123], [125]]


/-- A text of a list of bytes. -/
def B (l : List UInt8) : ByteArray := ⟨l.toArray⟩
theorem B_list (l : List UInt8) : (B l).data.toList = l := rfl
theorem B_of (s : ByteArray) : B s.data.toList = s := by cases s; rfl
theorem B_extract (s : ByteArray) (a b : Nat) : s.extract a b = B ((s.data.toList.drop a).take (b - a)) := by
  rw [← Lib.extract_data, B_of]
theorem B_size (l : List UInt8) : (B l).size = l.length := by rw [Lib.size_eq]; rfl

structure Tok where
  kind : Nat
  text : List UInt8
  at_ : Nat
  value : Nat
  uns : Bool
  long : Bool

def runLen (p : UInt8 → Bool) (l : List UInt8) : Nat := (l.takeWhile p).length
theorem runLen_le (p : UInt8 → Bool) (l : List UInt8) : runLen p l ≤ l.length := by
  unfold runLen
  induction l with
  | nil => simp
  | cons a t ih => simp only [List.takeWhile_cons]; split <;> simp; omega
theorem run_step (p : UInt8 → Bool) (l : List UInt8) (k : Nat) (h : k < l.length) : runLen p (l.drop k) = if p l[k] then runLen p (l.drop (k + 1)) + 1 else 0 := by
  unfold runLen
  rw [List.drop_eq_getElem_cons h, List.takeWhile_cons]
  split <;> simp
theorem run_end (p : UInt8 → Bool) (l : List UInt8) (k : Nat) (h : l.length ≤ k) : runLen p (l.drop k) = 0 := by
  unfold runLen
  rw [List.drop_eq_nil_of_le h]; rfl

def wsB (c : UInt8) : Bool := c == 32 || c == 9 || c == 10 || c == 13
def blank (l : List UInt8) : Nat :=
  if Lib.hasPrefix l [47, 47] then (if 0 ≤ Lib.indexByte l 10 then (Lib.indexByte l 10).toNat else l.length)
  else if Lib.hasPrefix l [47, 42] then (if 0 ≤ Lib.index (l.drop 2) [42, 47] then 2 + (Lib.index (l.drop 2) [42, 47]).toNat + 2 else 0)
  else match l with
    | [] => 0
    | c :: _ => if wsB c then 1 else 0
def blanksF : Nat → List UInt8 → Nat
  | 0, _ => 0
  | n + 1, l => if blank l = 0 then 0 else blank l + blanksF n (l.drop (blank l))
def blanks (l : List UInt8) : Nat := blanksF (l.length + 1) l

def nameT (l : List UInt8) : Option Tok :=
  if 40 < runLen (fun c => partB c.toNat) (l.drop 1) + 1 then none
  else some { kind := if words.contains (l.take (runLen (fun c => partB c.toNat) (l.drop 1) + 1)) then 2 else 1, text := l.take (runLen (fun c => partB c.toNat) (l.drop 1) + 1), at_ := 0, value := 0, uns := false, long := false }
def hexV (c : UInt8) : Nat := if c.toNat ≤ 57 then c.toNat - 48 else if c.toNat ≤ 70 then c.toNat - 55 else c.toNat - 87
def parseU : Nat → List UInt8 → Option Nat
  | acc, [] => some acc
  | acc, c :: l => if 1152921504606846976 ≤ acc then none else if 18446744073709551616 ≤ acc * 16 + hexV c then none else parseU (acc * 16 + hexV c) l
def valFrom (b : Nat) : Nat → List UInt8 → Nat
  | acc, [] => acc
  | acc, c :: l => valFrom b (acc * b + hexV c) l
theorem valFrom_ge (b : Nat) (hb : 1 ≤ b) (l : List UInt8) : ∀ acc, acc ≤ valFrom b acc l := by
  induction l with
  | nil => intro acc; exact Nat.le_refl _
  | cons c l ih =>
    intro acc
    simp only [valFrom]
    refine Nat.le_trans ?_ (ih _)
    have : acc * 1 ≤ acc * b := Nat.mul_le_mul_left _ hb
    omega
theorem parseU_eq (l : List UInt8) : ∀ acc, acc < 18446744073709551616 → parseU acc l = if valFrom 16 acc l < 18446744073709551616 then some (valFrom 16 acc l) else none := by
  induction l with
  | nil => intro acc h; simp [parseU, valFrom, h]
  | cons c l ih =>
    intro acc h
    have hg := valFrom_ge 16 (by omega) l (acc * 16 + hexV c)
    have e1 : valFrom 16 acc (c :: l) = valFrom 16 (acc * 16 + hexV c) l := rfl
    have e2 : parseU acc (c :: l) = if 1152921504606846976 ≤ acc then none else if 18446744073709551616 ≤ acc * 16 + hexV c then none else parseU (acc * 16 + hexV c) l := rfl
    rw [e1, e2]
    by_cases h1 : 1152921504606846976 ≤ acc
    · have h3 : ¬ valFrom 16 (acc * 16 + hexV c) l < 18446744073709551616 := by omega
      rw [if_pos h1, if_neg h3]
    · rw [if_neg h1]
      by_cases h2 : 18446744073709551616 ≤ acc * 16 + hexV c
      · have h3 : ¬ valFrom 16 (acc * 16 + hexV c) l < 18446744073709551616 := by omega
        rw [if_pos h2, if_neg h3]
      · rw [if_neg h2]
        exact ih _ (by omega)
def isAt (l : List UInt8) (n : Nat) (c : UInt8) : Bool := decide (n < l.length) && l.getD n 0 == c
def numFrom (l : List UInt8) : Nat := if Lib.hasPrefix l [48, 120] then 2 else 0
def numBase (l : List UInt8) : Nat := if Lib.hasPrefix l [48, 120] then 16 else 10
def numEnd (l : List UInt8) : Nat := numFrom l + runLen (fun c => baseB (numBase l) c.toNat) (l.drop (numFrom l))
def numVal (l : List UInt8) : Option Nat :=
  if numEnd l = numFrom l then none
  else if valFrom (numBase l) 0 ((l.drop (numFrom l)).take (numEnd l - numFrom l)) < 18446744073709551616 then some (valFrom (numBase l) 0 ((l.drop (numFrom l)).take (numEnd l - numFrom l))) else none
def numEnd1 (l : List UInt8) : Nat := numEnd l + if isAt l (numEnd l) 117 then 1 else 0
def numEnd2 (l : List UInt8) : Nat := numEnd1 l + if isAt l (numEnd1 l) 108 then 1 else 0
def numBad (l : List UInt8) : Bool := decide (numEnd2 l < l.length) && partB (l.getD (numEnd2 l) 0).toNat
def numberT (l : List UInt8) : Option Tok :=
  match numVal l with
  | none => none
  | some v => if numBad l then none else some { kind := 3, text := l.take (numEnd2 l), at_ := 0, value := v, uns := isAt l (numEnd l) 117, long := isAt l (numEnd1 l) 108 }
def charT (l : List UInt8) : Option Tok :=
  if 4 ≤ l.length ∧ l.getD 1 0 = 92 ∧ l.getD 3 0 = 39 then
    match esc (l.getD 2 0).toNat with
    | some v => some { kind := 3, text := l.take 4, at_ := 0, value := v.toNat, uns := false, long := false }
    | none => none
  else if 3 ≤ l.length ∧ plainB (l.getD 1 0).toNat ∧ l.getD 2 0 = 39 then
    some { kind := 3, text := l.take 3, at_ := 0, value := (l.getD 1 0).toNat, uns := false, long := false }
  else none
def signOf (t : List UInt8) : Tok := { kind := 4, text := t, at_ := 0, value := 0, uns := false, long := false }
def signDown : Nat → List UInt8 → Option Tok
  | 0, _ => none
  | k + 1, l => if signs.contains (l.take (k + 1)) then some (signOf (l.take (k + 1))) else signDown k l
def signT (l : List UInt8) : Option Tok := signDown (min 3 l.length) l
def firstT (l : List UInt8) : Option Tok :=
  if letB (l.getD 0 0).toNat then nameT l
  else if digB (l.getD 0 0).toNat then numberT l
  else if ((l.getD 0 0).toNat : Int) = 39 then charT l
  else if Lib.hasPrefix l [47, 42] then none
  else signT l

/-- The tokens of a rest that begins at a place, blanks ahead gone; or where none matches. -/
def scanF : Nat → List UInt8 → Nat → Except Nat (List Tok)
  | 0, _, at_ => .error at_
  | n + 1, l, at_ =>
    if l = [] then .ok [{ kind := 0, text := [], at_ := at_, value := 0, uns := false, long := false }]
    else match firstT l with
      | none => .error at_
      | some t =>
        match scanF n ((l.drop t.text.length).drop (blanks (l.drop t.text.length))) (at_ + t.text.length + blanks (l.drop t.text.length)) with
        | .error e => .error e
        | .ok ts => .ok ({ t with at_ := at_ } :: ts)
inductive Scanned where
  | size
  | lex (at_ : Nat)
  | ok (l : List Tok)
def scanM (l : List UInt8) : Scanned :=
  if 16384 < l.length then .size
  else match scanF (l.length + 1) (l.drop (blanks l)) (blanks l) with
    | .error e => .lex e
    | .ok ts => .ok ts

end Go.Proofs.YtamimaoaafapbaaDoor
