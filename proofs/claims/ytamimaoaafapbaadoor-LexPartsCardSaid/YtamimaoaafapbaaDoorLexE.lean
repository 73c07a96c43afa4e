import Derived.Test.YtamimaoaafapbaaDoorLexD
namespace Go.Proofs.YtamimaoaafapbaaDoor
open Go Go.RowKit

theorem parse_any (s : ByteArray) (hs : s.size ≤ 1048576) (f k : Nat) (b : Nat) (hb : b = 10 ∨ b = 16) (hf : f = numFrom s.data.toList) (hbb : b = numBase s.data.toList) (hk : k = numEnd s.data.toList) (hks : k ≤ s.size) (w : World) (hg : G w) :
    Calls Tryd.prog 33 #[.string (s.extract f k), .int .i64 b, .int .i64 64] w fun e w' => ParseRes (numVal s.data.toList) e ∧ Below w.heap.size w w' := by
  have hd : (s.extract f k).data.toList = (s.data.toList.drop (numFrom s.data.toList)).take (numEnd s.data.toList - numFrom s.data.toList) := by rw [Lib.extract_data, hf, hk]
  have hall : ∀ c ∈ (s.extract f k).data.toList, baseB b c.toNat = true := by
    intro c hc
    rw [hd] at hc
    have e : numEnd s.data.toList - numFrom s.data.toList = runLen (fun c => baseB (numBase s.data.toList) c.toNat) (s.data.toList.drop (numFrom s.data.toList)) := by unfold numEnd; omega
    rw [e] at hc
    unfold runLen at hc
    have e2 : ∀ (p : UInt8 → Bool) (l : List UInt8), l.take (l.takeWhile p).length = l.takeWhile p := by
      intro p l
      induction l with
      | nil => rfl
      | cons a t ih => simp only [List.takeWhile_cons]; split <;> simp [ih]
    rw [e2] at hc
    have e3 : ∀ (p : UInt8 → Bool) (l : List UInt8), ∀ c ∈ l.takeWhile p, p c = true := by
      intro p l
      induction l with
      | nil => intro c h; cases h
      | cons a t ih =>
        intro c h
        simp only [List.takeWhile_cons] at h
        split at h
        · rcases List.mem_cons.1 h with rfl | h
          · assumption
          · exact ih c h
        · cases h
    have := e3 _ _ c hc
    rw [hbb]; exact this
  have hlen : numEnd s.data.toList ≤ s.data.toList.length := by rw [← hk, ← Lib.size_eq]; exact hks
  have hfr : numFrom s.data.toList ≤ numEnd s.data.toList := by unfold numEnd; omega
  have hsz : (s.extract f k).size = numEnd s.data.toList - numFrom s.data.toList := by
    rw [Lib.size_eq, hd, List.length_take, List.length_drop]; omega
  by_cases he : numEnd s.data.toList = numFrom s.data.toList
  · have h0 : s.extract f k = ⟨#[]⟩ := by
      have : (s.extract f k).data.toList = [] := by rw [hd, he]; simp
      rw [← B_of (s.extract f k), this]; rfl
    have hv : numVal s.data.toList = none := by unfold numVal; rw [if_pos he]
    rw [h0, hv]
    exact parseNone _ w hg
  · have hv : numVal s.data.toList = capped (valFrom b 0 (s.extract f k).data.toList) := by
      unfold numVal capped; rw [if_neg he, hd, ← hbb]
    rw [hv]
    rcases hb with rfl | rfl
    · refine parse10 _ (by omega) (by omega) (fun c hc => ?_) w hg
      have := hall c hc
      simpa [baseB] using this
    · refine parse16 _ (by omega) (by omega) (fun c hc => ?_) w hg
      have := hall c hc
      simpa [baseB] using this

theorem hasPrefix_two (l : List UInt8) (a b : UInt8) (h : Lib.hasPrefix l [a, b] = true) : 2 ≤ l.length := by
  unfold Lib.hasPrefix at h
  have := List.isPrefixOf_iff_prefix.1 h
  have := this.length_le
  simpa using this
end Go.Proofs.YtamimaoaafapbaaDoor
