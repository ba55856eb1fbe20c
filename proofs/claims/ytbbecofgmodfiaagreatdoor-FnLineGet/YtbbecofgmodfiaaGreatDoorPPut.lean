/- ProgPut of the specification and of the program; the walk of the law. -/
import Derived.Test.YtbbecofgmodfiaaGreatDoorToS2
namespace Go.Proofs.YtbbecofgmodfiaaGreatDoor
open Go.RowKit
set_option linter.unusedSimpArgs false

def I6.put (x : I6) : ByteArray := putS x.o x.d x.s x.f x.i x.z
def catS (xs : List I6) : ByteArray := xs.foldl (fun s x => s ++ x.put) ⟨#[]⟩
def progS (xs : List I6) : ByteArray := if formN xs = 0 then catS xs else ⟨#[]⟩

theorem put_size (x : I6) : x.put.size = 8 := by simp [I6.put, putS, strOfNums_size, headN, fourN]
theorem cat_snoc (xs : List I6) (k : Nat) (h : k < xs.length) : catS (xs.take (k + 1)) = catS (xs.take k) ++ xs[k].put := by
  rw [List.take_succ_eq_append_getElem h, catS, List.foldl_append]; rfl
theorem cat_size (xs : List I6) : (catS xs).size = 8 * xs.length := by
  have : ∀ (xs : List I6) (s : ByteArray), (xs.foldl (fun s x => s ++ x.put) s).size = s.size + 8 * xs.length := by
    intro xs
    induction xs with
    | nil => intro s; simp
    | cons x xs ih => intro s; rw [List.foldl_cons, ih, ByteArray.size_append, put_size]; simp; omega
  have h := this xs ⟨#[]⟩
  unfold catS
  rw [h]
  show 0 + _ = _
  omega
theorem form_small {xs : List I6} (h : formN xs = 0) : xs.length ≤ 48 := by
  unfold formN at h
  split at h
  · split at h
    · cases h
    · omega
  · contradiction
theorem form_ok {xs : List I6} (h : formN xs = 0) : ∀ k (hk : k < xs.length), xs[k].ok = true := by
  have h0 : firstBad xs.length 0 xs = 0 := by
    unfold formN at h
    split at h
    · assumption
    · contradiction
  have gen : ∀ (ys : List I6) (n : Int) (j : Nat), firstBad n j ys = 0 → ∀ k (hk : k < ys.length), ys[k].ok = true := by
    intro ys
    induction ys with
    | nil => intro n j _ k hk; simp at hk
    | cons y ys ih =>
      intro n j hb k hk
      rw [firstBad] at hb
      by_cases hy : badN n j y = 0
      · rw [if_pos hy] at hb
        match k with
        | 0 =>
          cases hok : y.ok
          · rw [bad_ok hok] at hy; cases hy
          · simpa using hok
        | k + 1 => simpa using ih n (j + 1) hb k (by simpa using hk)
      · rw [if_neg hy] at hb; exact absurd hb hy
  exact gen xs _ 0 h0

end Go.Proofs.YtbbecofgmodfiaaGreatDoor
