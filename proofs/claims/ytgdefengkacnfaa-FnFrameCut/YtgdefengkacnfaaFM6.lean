/- Plain mathematics of frames: bytes are frames and what is left, in one way alone. -/
import Derived.Test.YtgdefengkacnfaaFC
namespace Go.Proofs.Ytgdefengkacnfaa
open Go.RowKit
set_option linter.unusedVariables false
set_option linter.unusedSimpArgs false

theorem ba_ext {a b : ByteArray} (h : a.data.toList = b.data.toList) : a = b := by
  obtain ⟨⟨x⟩⟩ := a
  obtain ⟨⟨y⟩⟩ := b
  simp at h
  rw [h]
theorem ba_app (a b : ByteArray) : (a ++ b).data.toList = a.data.toList ++ b.data.toList := by simp [ByteArray.data_append]
theorem extract_list (s : ByteArray) (i j : Nat) : (s.extract i j).data.toList = (s.data.toList.drop i).take (j - i) := by
  rw [ByteArray.data_extract, Array.toList_extract, List.extract_eq_take_drop]
theorem size_list (s : ByteArray) : s.size = s.data.toList.length := by rw [Array.length_toList]; rfl
def isF (x : ByteArray) : Prop := 1 ≤ x.size ∧ x.size ≤ 12
def catL (xs : List ByteArray) : List UInt8 := xs.flatMap fun x => (putF x).data.toList
def catF (xs : List ByteArray) : ByteArray := xs.foldl (fun s x => s ++ putF x) ⟨#[]⟩
theorem catF_list (xs : List ByteArray) : (catF xs).data.toList = catL xs := by
  have : ∀ (xs : List ByteArray) (s : ByteArray), (xs.foldl (fun s x => s ++ putF x) s).data.toList = s.data.toList ++ catL xs := by
    intro xs
    induction xs with
    | nil => intro s; simp [catL]
    | cons x xs ih =>
      intro s
      rw [List.foldl_cons, ih, ba_app]
      simp [catL]
  rw [catF, this]
  simp
theorem isF_b {x : ByteArray} (h : isF x) : inB (x.size : Int) 1 12 = true := by
  obtain ⟨h1, h2⟩ := h
  simp [inB]; omega
theorem put_list {x : ByteArray} (h : isF x) : (putF x).data.toList = UInt8.ofNat x.size :: x.data.toList := by
  rw [putF, if_pos (isF_b h), ba_app, strOfNums_data]
  simp
theorem put_size {x : ByteArray} (h : isF x) : (putF x).size = x.size + 1 := by
  rw [size_list, put_list h, size_list]; simp
theorem hd_list {s : ByteArray} {b : UInt8} {t : List UInt8} (h : s.data.toList = b :: t) : hdN s = b.toNat := by
  obtain ⟨⟨l⟩⟩ := s
  simp at h
  subst h
  rfl
theorem byte_back {n : Nat} (h : n ≤ 12) : (UInt8.ofNat n).toNat = n := by simp; omega
theorem first_of {s x : ByteArray} {t : List UInt8} (hx : isF x) (h : s.data.toList = UInt8.ofNat x.size :: (x.data.toList ++ t)) :
    firstF s = some x ∧ (s.extract (x.size + 1) s.size).data.toList = t := by
  have hh := hd_list h
  rw [byte_back hx.2] at hh
  have hz : s.size = x.size + t.length + 1 := by rw [size_list, h, size_list]; simp
  constructor
  · unfold firstF
    rw [if_pos ⟨by omega, by rw [hh]; exact isF_b hx, by omega⟩]
    congr 1
    apply ba_ext
    rw [extract_list, h, hh]
    simp
  · rw [extract_list, h, hz]
    simp
theorem of_first {s x : ByteArray} (h : firstF s = some x) : isF x ∧ s.data.toList = UInt8.ofNat x.size :: (x.data.toList ++ (s.extract (x.size + 1) s.size).data.toList) := by
  obtain ⟨h0, h1, h2, h3, hx, h4⟩ := firstF_some h
  refine ⟨⟨by omega, by omega⟩, ?_⟩
  cases hl : s.data.toList with
  | nil => have := size_list s; rw [hl, List.length_nil] at this; omega
  | cons b t =>
    have hb := hd_list hl
    have hxl : x.data.toList = t.take x.size := by
      have e := extract_list s 1 (hdN s + 1)
      rw [← hx, hl] at e
      rw [e, h4]; simp
    have hr : (s.extract (x.size + 1) s.size).data.toList = t.drop x.size := by
      rw [extract_list, hl]
      have := size_list s
      rw [hl] at this
      simp at this
      rw [List.take_of_length_le] <;> simp
      omega
    rw [hxl, hr, List.take_append_drop, h4, hb]
    simp
theorem cut_of : ∀ (xs : List ByteArray) (r s : ByteArray), (∀ x ∈ xs, isF x) → firstF r = none → s.data.toList = catL xs ++ r.data.toList → cutF s = (xs, r) := by
  intro xs
  induction xs with
  | nil =>
    intro r s _ hr h
    obtain rfl : s = r := ba_ext (by simpa [catL] using h)
    exact cut_none hr
  | cons x xs ih =>
    intro r s hf hr h
    have hx := hf x (by simp)
    have h' : s.data.toList = UInt8.ofNat x.size :: (x.data.toList ++ (catL xs ++ r.data.toList)) := by
      rw [h]
      simp [catL, put_list hx]
    obtain ⟨h1, h2⟩ := first_of hx h'
    rw [cut_some h1, ih r _ (fun y hy => hf y (by simp [hy])) hr h2]
theorem of_cut : ∀ (n : Nat) (s : ByteArray), s.size ≤ n → (∀ x ∈ (cutF s).1, isF x) ∧ firstF (cutF s).2 = none ∧ s.data.toList = catL (cutF s).1 ++ (cutF s).2.data.toList := by
  intro n
  induction n with
  | zero =>
    intro s h
    have hf : firstF s = none := by unfold firstF; rw [if_neg]; omega
    rw [cut_none hf]
    exact ⟨by simp, hf, by simp [catL]⟩
  | succ n ih =>
    intro s h
    cases hf : firstF s with
    | none =>
      rw [cut_none hf]
      exact ⟨by simp, hf, by simp [catL]⟩
    | some x =>
      have hs := firstF_some hf
      have hz : (s.extract (x.size + 1) s.size).size = s.size - (x.size + 1) := by simp
      obtain ⟨hx, hl⟩ := of_first hf
      obtain ⟨i1, i2, i3⟩ := ih (s.extract (x.size + 1) s.size) (by omega)
      rw [cut_some hf]
      refine ⟨?_, i2, ?_⟩
      · intro y hy
        simp at hy
        rcases hy with rfl | hy
        · exact hx
        · exact i1 y hy
      · show _ = catL (x :: _) ++ _
        rw [hl, i3]
        simp [catL, put_list hx]
def okL : List UInt8 → Bool
  | [] => true
  | b :: _ => inB b.toNat 1 12
theorem okR_list (r : ByteArray) : okR r = okL r.data.toList := by
  cases hl : r.data.toList with
  | nil => have := size_list r; rw [hl, List.length_nil] at this; simp [okR, okL, this]
  | cons b t =>
    have := size_list r
    rw [hl] at this
    simp at this
    rw [okR, hd_list hl]
    simp [okL, this]
theorem cut_back (s : ByteArray) : catF (cutF s).1 ++ (cutF s).2 = s := by
  apply ba_ext
  rw [ba_app, catF_list]
  exact (of_cut s.size s (Nat.le_refl _)).2.2.symm
theorem cut_two (s : ByteArray) (k : Nat) (hk : k ≤ s.size) (hok : okR (cutF s).2 = true) :
    okR (cutF (s.extract 0 k)).2 = true ∧ (cutF ((cutF (s.extract 0 k)).2 ++ s.extract k s.size)).2 = (cutF s).2 ∧ (cutF (s.extract 0 k)).1 ++ (cutF ((cutF (s.extract 0 k)).2 ++ s.extract k s.size)).1 = (cutF s).1 := by
  obtain ⟨a1, a2, a3⟩ := of_cut _ (s.extract 0 k) (Nat.le_refl _)
  obtain ⟨b1, b2, b3⟩ := of_cut _ ((cutF (s.extract 0 k)).2 ++ s.extract k s.size) (Nat.le_refl _)
  generalize cutF (s.extract 0 k) = A at *
  generalize cutF (A.2 ++ s.extract k s.size) = Bq at *
  have hs : s.data.toList = catL (A.1 ++ Bq.1) ++ Bq.2.data.toList := by
    have h1 : s.data.toList = (s.extract 0 k).data.toList ++ (s.extract k s.size).data.toList := by
      rw [extract_list, extract_list]
      have := size_list s
      rw [List.take_of_length_le (l := List.drop k _) (by simp)]
      simp
    have h2 : catL (A.1 ++ Bq.1) = catL A.1 ++ catL Bq.1 := by simp [catL]
    rw [h1, a3, h2, List.append_assoc, List.append_assoc, ← b3, ba_app]
  have hc := cut_of (A.1 ++ Bq.1) Bq.2 s (by intro x hx; rcases List.mem_append.1 hx with h | h; exact a1 x h; exact b1 x h) b2 hs
  rw [hc] at hok ⊢
  refine ⟨?_, rfl, rfl⟩
  rw [okR_list] at hok ⊢
  cases hl : A.2.data.toList with
  | nil => rfl
  | cons b t =>
    rw [ba_app, hl] at b3
    cases hB : Bq.1 with
    | nil =>
      rw [hB] at b3
      have e : Bq.2.data.toList = b :: t ++ (s.extract k s.size).data.toList := by rw [b3]; simp [catL]
      rw [e] at hok
      exact hok
    | cons x xs =>
      have hx := b1 x (by rw [hB]; simp)
      rw [hB] at b3
      simp [catL, put_list hx] at b3
      have := byte_back hx.2
      show inB _ 1 12 = true
      rw [b3.1, this]
      exact isF_b hx
/-- Twice, and all but the last byte. -/
theorem cut_twice {s : ByteArray} (h : isF s) : cutF (putF s ++ putF s ++ (putF s).extract 0 ((putF s).size - 1)) = ([s, s], (putF s).extract 0 ((putF s).size - 1)) ∧ okR ((putF s).extract 0 ((putF s).size - 1)) = true := by
  have hz := put_size h
  have hrs : ((putF s).extract 0 ((putF s).size - 1)).size = s.size := by simp; omega
  obtain ⟨n, hn⟩ : ∃ n, s.size = n + 1 := ⟨s.size - 1, by have := h.1; omega⟩
  have hl : ((putF s).extract 0 ((putF s).size - 1)).data.toList = UInt8.ofNat s.size :: (s.data.toList.take n) := by
    rw [extract_list, put_list h, hz, hn]; simp
  have hh := hd_list hl
  rw [byte_back h.2] at hh
  constructor
  · refine cut_of _ _ _ ?_ ?_ ?_
    · intro x hx; simp at hx; subst hx; exact h
    · unfold firstF; rw [if_neg]; omega
    · rw [ba_app, ba_app]; simp [catL]
  · rw [okR, hh]
    simp [isF_b h]
end Go.Proofs.Ytgdefengkacnfaa
