/- The lines of a text, as the program takes them. -/
import Derived.Test.YtkaekiodjjhjkaaDoorNW
namespace Go.Proofs.YtkaekiodjjhjkaaDoor
open Go.RowKit
set_option linter.unusedVariables false
set_option linter.unusedSimpArgs false
/-- The first line of a text, its newline with it. -/
def lineHd (s : ByteArray) : ByteArray := if 0 ≤ Lib.indexByte s.data.toList 10 then s.extract 0 ((Lib.indexByte s.data.toList 10).toNat + 1) else s
/-- What lies behind it. -/
def lineTl (s : ByteArray) : ByteArray := if 0 ≤ Lib.indexByte s.data.toList 10 then s.extract ((Lib.indexByte s.data.toList 10).toNat + 1) s.size else ⟨#[]⟩
def linesF : Nat → ByteArray → List ByteArray
  | 0, _ => []
  | k + 1, s => if s.size = 0 then [] else lineHd s :: linesF k (lineTl s)
def linesM (s : ByteArray) : List ByteArray := linesF s.size s
theorem size_zero {s : ByteArray} (h : s.size = 0) : s = ⟨#[]⟩ := by
  apply tl_inj
  exact List.length_eq_zero_iff.1 ((tl_len s).trans h)
theorem lineTl_lt {s : ByteArray} (h : 0 < s.size) : (lineTl s).size < s.size := by
  unfold lineTl
  split
  · rw [ByteArray.size_extract]; omega
  · exact h
theorem lineHd_le (s : ByteArray) : (lineHd s).size ≤ s.size := by
  unfold lineHd
  split
  · rw [ByteArray.size_extract]; omega
  · exact Nat.le_refl _
theorem linesF_more : ∀ (k j : Nat) (s : ByteArray), s.size ≤ k → s.size ≤ j → linesF k s = linesF j s
  | 0, 0, _, _, _ => rfl
  | 0, j + 1, s, h, _ => by rw [linesF, linesF, if_pos (by omega)]
  | k + 1, 0, s, _, h => by rw [linesF, linesF, if_pos (by omega)]
  | k + 1, j + 1, s, h1, h2 => by
    rw [linesF, linesF]
    by_cases h0 : s.size = 0
    · rw [if_pos h0, if_pos h0]
    · have := lineTl_lt (s := s) (by omega)
      rw [if_neg h0, if_neg h0, linesF_more k j _ (by omega) (by omega)]
theorem linesM_nil {s : ByteArray} (h : s.size = 0) : linesM s = [] := by
  unfold linesM; rw [h]; rfl
theorem linesM_cons {s : ByteArray} (h : 0 < s.size) : linesM s = lineHd s :: linesM (lineTl s) := by
  have hl := lineTl_lt h
  obtain ⟨k, hk⟩ : ∃ k, s.size = k + 1 := ⟨s.size - 1, by omega⟩
  unfold linesM
  rw [hk, linesF, if_neg (by omega), linesF_more k (lineTl s).size _ (by omega) (Nat.le_refl _)]
theorem linesM_size : ∀ (k : Nat) (s : ByteArray), s.size ≤ k → ∀ x ∈ linesM s, x.size ≤ s.size
  | k, s, hk, x, hx => by
    rcases Nat.eq_zero_or_pos s.size with h0 | h0
    · rw [linesM_nil h0] at hx; cases hx
    · have hl := lineTl_lt h0
      rw [linesM_cons h0] at hx
      rcases List.mem_cons.1 hx with rfl | hx
      · exact lineHd_le s
      · cases k with
        | zero => omega
        | succ k => have := linesM_size k (lineTl s) (by omega) x hx; omega
theorem linesM_len : ∀ (k : Nat) (s : ByteArray), s.size ≤ k → (linesM s).length ≤ s.size
  | k, s, hk => by
    rcases Nat.eq_zero_or_pos s.size with h0 | h0
    · rw [linesM_nil h0]; exact Nat.zero_le _
    · have hl := lineTl_lt h0
      rw [linesM_cons h0, List.length_cons]
      cases k with
      | zero => omega
      | succ k => have := linesM_len k (lineTl s) (by omega); omega
theorem idx10 : ∀ (a r : List UInt8), (10 : UInt8) ∉ a → Lib.indexByte (a ++ 10 :: r) 10 = a.length
  | [], r, _ => by simp [Lib.indexByte]
  | b :: a, r, h => by
    have hb : ¬ b = 10 := fun e => h (by simp [e])
    have := idx10 a r (fun e => h (by simp [e]))
    show Lib.indexByte (b :: (a ++ 10 :: r)) 10 = _
    rw [Lib.indexByte, this]
    simp [hb]
    try omega
theorem body_idx {r : Ru} (h : ruOk r = true) (s : ByteArray) : Lib.indexByte (bodyRu r ++ NL ++ s).data.toList 10 = (bodyRu r).size := by
  have e : (bodyRu r ++ NL ++ s).data.toList = (bodyRu r).data.toList ++ 10 :: s.data.toList := by
    rw [ByteArray.data_append, ByteArray.data_append, Array.toList_append, Array.toList_append, List.append_assoc]; rfl
  rw [e, idx10 (bodyRu r).data.toList s.data.toList (body_no h)]
  exact congrArg _ Array.length_toList
theorem ext_fst (a b : ByteArray) : (a ++ b).extract 0 a.size = a := by
  apply tl_inj
  rw [tl_ext, tl_app, List.drop_zero, ← tl_len, List.take_left]
theorem ext_snd (a b : ByteArray) : (a ++ b).extract a.size (a ++ b).size = b := by
  apply tl_inj
  rw [tl_all, tl_app, ← tl_len, List.drop_left]
theorem hd_body {r : Ru} (h : ruOk r = true) (s : ByteArray) : lineHd (bodyRu r ++ NL ++ s) = bodyRu r ++ NL := by
  have hz : (bodyRu r ++ NL).size = (bodyRu r).size + 1 := by rw [ByteArray.size_append]; rfl
  unfold lineHd
  rw [body_idx h, if_pos (by omega), Int.toNat_natCast, ← hz, ext_fst]
theorem tl_body {r : Ru} (h : ruOk r = true) (s : ByteArray) : lineTl (bodyRu r ++ NL ++ s) = s := by
  have hz : (bodyRu r ++ NL).size = (bodyRu r).size + 1 := by rw [ByteArray.size_append]; rfl
  unfold lineTl
  rw [body_idx h, if_pos (by omega), Int.toNat_natCast, ← hz, ext_snd]
theorem lines_cat : ∀ (l : List Ru), (∀ r ∈ l, ruOk r = true) → linesM (catL l) = l.map fun r => bodyRu r ++ NL
  | [], _ => linesM_nil rfl
  | r :: l, h => by
    have hr := h r (by simp)
    have hp : 0 < (bodyRu r ++ NL ++ catL l).size := by
      rw [ByteArray.size_append, ByteArray.size_append]
      have : NL.size = 1 := rfl
      omega
    have e : catL (r :: l) = bodyRu r ++ NL ++ catL l := by rw [catL, line_body hr]
    rw [e, linesM_cons hp, hd_body hr, tl_body hr, lines_cat l fun q hq => h q (by simp [hq])]
    rfl
/-- A text without the newline at its end. -/
def chop (s : ByteArray) : ByteArray := ⟨(Lib.trimSuffix s.data.toList (⟨#[10]⟩ : ByteArray).data.toList).toArray⟩
theorem chop_le (s : ByteArray) : (chop s).size ≤ s.size := by
  have := Lib.trimSuffix_le s.data.toList (⟨#[10]⟩ : ByteArray).data.toList
  have e : (chop s).size = (Lib.trimSuffix s.data.toList (⟨#[10]⟩ : ByteArray).data.toList).length := List.size_toArray
  rw [e, ← tl_len]; exact this
theorem chop_body (a : ByteArray) : chop (a ++ NL) = a := by
  apply tl_inj
  show Lib.trimSuffix (tl (a ++ NL)) [10] = tl a
  rw [tl_app]
  unfold Lib.trimSuffix Lib.hasSuffix
  rw [if_pos (by rw [List.isSuffixOf_iff_suffix]; exact ⟨tl a, rfl⟩)]
  show (tl a ++ [10]).take ((tl a ++ [10]).length - 1) = tl a
  rw [List.length_append, List.length_singleton, Nat.add_sub_cancel, List.take_left]
end Go.Proofs.YtkaekiodjjhjkaaDoor
