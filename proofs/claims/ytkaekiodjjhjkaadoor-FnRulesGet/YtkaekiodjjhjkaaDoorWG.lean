/- Texts as lists of bytes: joined texts that are cut, decimals that are read. -/
import Derived.Test.YtkaekiodjjhjkaaDoorWE0
import Derived.Test.YtkaekiodjjhjkaaDoorWD0
import Derived.Test.YtkaekiodjjhjkaaDoorMX0
import Derived.Test.YtkaekiodjjhjkaaDoorWF0
import Derived.Lib.Strings
namespace Go.Proofs.YtkaekiodjjhjkaaDoor
open Go.RowKit
set_option linter.unusedVariables false
set_option linter.unusedSimpArgs false
/-- A text's bytes. -/
def tl (s : ByteArray) : List UInt8 := s.data.toList
theorem tl_len (s : ByteArray) : (tl s).length = s.size := Array.length_toList
theorem tl_inj {a b : ByteArray} (h : tl a = tl b) : a = b := ByteArray.ext (Array.toList_inj.1 h)
theorem tl_app (a b : ByteArray) : tl (a ++ b) = tl a ++ tl b := by unfold tl; rw [ByteArray.data_append, Array.toList_append]
theorem tl_ext (s : ByteArray) (f k : Nat) : tl (s.extract f k) = ((tl s).take k).drop f := by
  unfold tl
  rw [Lib.extract_data, List.take_drop]
  rcases Nat.le_total f k with h | h
  · rw [Nat.add_sub_cancel' h]
  · rw [List.drop_eq_nil_of_le (by simp; omega), List.drop_eq_nil_of_le (by simp; omega)]
theorem tl_all (s : ByteArray) (f : Nat) : tl (s.extract f s.size) = (tl s).drop f := by
  rw [tl_ext, List.take_of_length_le (by rw [tl_len]; exact Nat.le_refl _)]
theorem byteAt_tl {s : ByteArray} {i : Nat} {b : UInt8} (h : (tl s)[i]? = some b) : byteAt s i = b.toNat := by
  obtain ⟨hi, e⟩ := List.getElem?_eq_some_iff.1 h
  have hs : i < s.size := by rw [← tl_len]; exact hi
  unfold byteAt
  have hi' : i < s.data.toList.length := hi
  have e2 : s[i] = s.data.toList[i]'hi' := by rw [Array.getElem_toList]; rfl
  rw [dif_pos hs, e2]
  exact congrArg UInt8.toNat e
theorem byteAt_is (s : ByteArray) {i : Nat} (h : i < s.size) : ∃ b, (tl s)[i]? = some b := ⟨(tl s)[i]'(by rw [tl_len]; exact h), List.getElem?_eq_getElem _⟩
/-- Texts joined by a byte. -/
def joinB (c : UInt8) : List ByteArray → ByteArray
  | [] => ⟨#[]⟩
  | [w] => w
  | w :: r => w ++ (⟨#[c]⟩ ++ joinB c r)
def NoB (c : UInt8) (w : ByteArray) : Prop := c ∉ tl w
theorem cutN_run {s : ByteArray} {c most fr : Nat} {out : List ByteArray} (hm : out.length < most) : ∀ (d i : Nat), i + d ≤ s.size → (∀ j, i ≤ j → j < i + d → ¬ byteAt s j = c) → cutN s c most (s.size - i) i fr out = cutN s c most (s.size - (i + d)) (i + d) fr out
  | 0, i, _, _ => rfl
  | d + 1, i, h, hn => by
    rw [show s.size - i = (s.size - (i + 1)) + 1 by omega, cutN, if_pos hm, if_neg (hn i (by omega) (by omega)), cutN_run hm d (i + 1) (by omega) (fun j h1 h2 => hn j (by omega) (by omega))]
    rw [show i + 1 + d = i + (d + 1) by omega]
theorem cutN_stop {s : ByteArray} {c most fr i k : Nat} {out : List ByteArray} (hm : ¬ out.length < most) : cutN s c most k i fr out = out ++ [s.extract fr s.size] := by
  cases k
  · rfl
  · rw [cutN, if_neg hm]
theorem join_at {c : UInt8} {s w : ByteArray} {r : List ByteArray} {fr : Nat} (hr : r ≠ []) (h : s.extract fr s.size = joinB c (w :: r)) : (tl s).drop fr = tl w ++ c :: tl (joinB c r) := by
  have := congrArg tl h
  rw [tl_all] at this
  rw [this]
  cases r with
  | nil => exact absurd rfl hr
  | cons x r =>
    rw [joinB, tl_app, tl_app]
    · rfl
    · exact fun h => hr h
theorem cutN_join {c : UInt8} {s : ByteArray} {most : Nat} : ∀ (W : List ByteArray) (out : List ByteArray) (fr : Nat), W ≠ [] → (∀ w ∈ W, NoB c w) → fr ≤ s.size → s.extract fr s.size = joinB c W → out.length + W.length ≤ most + 1 →
    cutN s c.toNat most (s.size - fr) fr fr out = out ++ W
  | [], _, _, h, _, _, _, _ => absurd rfl h
  | [w], out, fr, _, hn, hf, he, hl => by
    have hw : s.extract fr s.size = w := he
    by_cases hm : out.length < most
    · have hnb : ∀ j, fr ≤ j → j < fr + (s.size - fr) → ¬ byteAt s j = c.toNat := by
        intro j h1 h2 hb
        obtain ⟨b, hb'⟩ := byteAt_is s (i := j) (by omega)
        rw [byteAt_tl hb'] at hb
        have : b ∈ tl w := by
          rw [← hw, tl_all]
          refine List.mem_of_getElem? (i := j - fr) ?_
          rw [List.getElem?_drop, show fr + (j - fr) = j by omega]; exact hb'
        exact hn w (by simp) (by rw [← UInt8.toNat_inj.1 hb]; exact this)
      rw [cutN_run hm (s.size - fr) fr (by omega) hnb, show s.size - (fr + (s.size - fr)) = 0 by omega, cutN, hw]
    · rw [cutN_stop hm, hw]
  | w :: x :: r, out, fr, _, hn, hf, he, hl => by
    have hm : out.length < most := by simp at hl; omega
    have hd := join_at (by simp) he
    have hlen : (tl s).length = fr + ((tl w).length + 1 + (tl (joinB c (x :: r))).length) := by
      have := congrArg List.length hd
      rw [List.length_drop, List.length_append, List.length_cons] at this
      rw [tl_len] at this ⊢
      omega
    rw [tl_len, tl_len] at hlen
    have hat : ∀ j, (tl s)[fr + j]? = (tl w ++ c :: tl (joinB c (x :: r)))[j]? := by
      intro j; rw [← hd, List.getElem?_drop]
    have hnb : ∀ j, fr ≤ j → j < fr + w.size → ¬ byteAt s j = c.toNat := by
      intro j h1 h2 hb
      have h3 := hat (j - fr)
      rw [show fr + (j - fr) = j by omega, List.getElem?_append_left (by rw [tl_len]; omega)] at h3
      obtain ⟨b, hb'⟩ := byteAt_is w (i := j - fr) (by omega)
      rw [hb'] at h3
      rw [byteAt_tl h3] at hb
      exact hn w (by simp) (by rw [← UInt8.toNat_inj.1 hb]; exact List.mem_of_getElem? hb')
    have hc : byteAt s (fr + w.size) = c.toNat := by
      refine byteAt_tl ?_
      rw [hat, List.getElem?_append_right (by rw [tl_len]; exact Nat.le_refl _), tl_len, Nat.sub_self]; rfl
    have e1 : s.extract fr (fr + w.size) = w := by
      apply tl_inj
      rw [tl_ext, List.drop_take, hd, show fr + w.size - fr = (tl w).length by rw [tl_len]; omega, List.take_left]
    have e2 : s.extract (fr + w.size + 1) s.size = joinB c (x :: r) := by
      apply tl_inj
      rw [tl_all, show fr + w.size + 1 = fr + ((tl w).length + 1) by rw [tl_len]; omega, ← List.drop_drop, hd, ← List.drop_drop, List.drop_left]; rfl
    rw [cutN_run hm w.size fr (by omega) hnb, show s.size - (fr + w.size) = (s.size - (fr + w.size + 1)) + 1 by omega, cutN, if_pos hm, if_pos hc, e1,
      cutN_join (x :: r) (out ++ [w]) (fr + w.size + 1) (by simp) (fun y hy => hn y (by simp at hy ⊢; exact .inr hy)) (by omega) e2 (by simp at hl ⊢; omega)]
    simp
/-- Joined texts are cut so. -/
theorem cutM_join {c : UInt8} {s : ByteArray} {most : Nat} (W : List ByteArray) (h0 : W ≠ []) (hn : ∀ w ∈ W, NoB c w) (he : s = joinB c W) (hl : W.length ≤ most + 1) : cutM s c.toNat most = W := by
  have := cutN_join (c := c) (s := s) (most := most) W [] 0 h0 hn (Nat.zero_le _) (by rw [← he]; apply tl_inj; rw [tl_all]; rfl) (by simpa using hl)
  simpa [cutM] using this
/-- What figures say. -/
def valL (l : List UInt8) : Nat := l.foldl (fun a b => a * 10 + (b.toNat - 48)) 0
theorem valL_snoc (l : List UInt8) (b : UInt8) : valL (l ++ [b]) = valL l * 10 + (b.toNat - 48) := by simp [valL, List.foldl_append]
theorem numV_list (s : ByteArray) : ∀ i, i ≤ s.size → numV s i = valL ((tl s).take i)
  | 0, _ => rfl
  | i + 1, h => by
    obtain ⟨b, hb⟩ := byteAt_is s (i := i) (by omega)
    rw [numV, numV_list s i (by omega), byteAt_tl hb, List.take_add_one, hb]
    exact (valL_snoc _ _).symm
theorem tl_dec_lt {n : Nat} (h : n < 10) : tl (decS n) = [UInt8.ofNat (48 + n)] := by
  rw [decS_lt h]
  have : (48 + (n : Int)).toNat = 48 + n := by omega
  simp [tl, strOfNums, this]
theorem tl_dec_ge {n : Nat} (h : ¬ n < 10) : tl (decS n) = tl (decS (n / 10)) ++ [UInt8.ofNat (48 + n % 10)] := by
  rw [decS_ge h, tl_app]
  have : (48 + ((n % 10 : Nat) : Int)).toNat = 48 + n % 10 := by omega
  congr 1
theorem fig_nat {d : Nat} (h : d < 10) : (UInt8.ofNat (48 + d)).toNat = 48 + d := by
  rw [UInt8.toNat_ofNat']; omega
theorem valL_dec (n : Nat) : valL (tl (decS n)) = n := by
  induction n using Nat.strongRecOn with
  | ind n ih =>
    by_cases h : n < 10
    · rw [tl_dec_lt h]; simp only [valL, List.foldl_cons, List.foldl_nil, fig_nat h]; omega
    · rw [tl_dec_ge h, valL_snoc, ih (n / 10) (by omega), fig_nat (by omega)]; omega
theorem dec_figs (n : Nat) : ∀ b ∈ tl (decS n), 48 ≤ b.toNat ∧ b.toNat ≤ 57 := by
  induction n using Nat.strongRecOn with
  | ind n ih =>
    by_cases h : n < 10
    · rw [tl_dec_lt h]; intro b hb; rw [List.mem_singleton] at hb; subst hb; rw [fig_nat h]; omega
    · rw [tl_dec_ge h]; intro b hb
      rcases List.mem_append.1 hb with hb | hb
      · exact ih (n / 10) (by omega) b hb
      · rw [List.mem_singleton] at hb; subst hb; rw [fig_nat (by omega)]; omega
theorem dec_head (n : Nat) (h1 : 1 ≤ n) : ∀ b, (tl (decS n))[0]? = some b → b.toNat ≠ 48 := by
  induction n using Nat.strongRecOn with
  | ind n ih =>
    by_cases h : n < 10
    · rw [tl_dec_lt h]; intro b hb; obtain rfl : UInt8.ofNat (48 + n) = b := Option.some.inj hb; rw [fig_nat h]; omega
    · rw [tl_dec_ge h]; intro b hb
      have h0 : 0 < (tl (decS (n / 10))).length := by
        rw [List.length_pos_iff]
        by_cases h' : n / 10 < 10
        · rw [tl_dec_lt h']; simp
        · rw [tl_dec_ge h']; simp
      rw [List.getElem?_append_left h0] at hb
      exact ih (n / 10) (by omega) (by omega) b hb
theorem dec_pos (n : Nat) : 0 < (decS n).size := by
  rw [← tl_len, List.length_pos_iff]
  by_cases h' : n < 10
  · rw [tl_dec_lt h']; simp
  · rw [tl_dec_ge h']; simp
/-- Decimals are read back. -/
theorem numM_dec (n : Nat) (hn : n ≤ 4294967295) : numM (decS n) = (n : Int) := by
  have hfig : figs (decS n) (decS n).size := by
    intro j hj
    obtain ⟨b, hb⟩ := byteAt_is (decS n) hj
    rw [byteAt_tl hb]
    exact dec_figs n b (List.mem_of_getElem? hb)
  have hsz := decS_size 9 n (by omega)
  have hp := dec_pos n
  rw [numM_yes hfig hsz (by omega) ?_, numV_list _ _ (Nat.le_refl _), List.take_of_length_le (by rw [tl_len]; exact Nat.le_refl _), valL_dec]
  rintro ⟨h1, h0⟩
  have hn1 : 1 ≤ n := by
    rcases Nat.eq_zero_or_pos n with rfl | h
    · have : (decS 0).size = 1 := by rw [← tl_len, tl_dec_lt (by decide)]; rfl
      omega
    · exact h
  obtain ⟨b, hb⟩ := byteAt_is (decS n) hp
  rw [byteAt_tl hb] at h0
  exact dec_head n hn1 b hb h0
theorem no_dec (n : Nat) (c : UInt8) (h : c.toNat < 48) : NoB c (decS n) := fun hc => by have := dec_figs n c hc; omega
end Go.Proofs.YtkaekiodjjhjkaaDoor
