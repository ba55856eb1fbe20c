/- Rules tidied: plain; ranges of bytes as a list; branches of a rule. -/
import Derived.Test.YtcopcajleonndaaQIQ
import Derived.Test.YtcopcajleonndaaQIVW
import Derived.Test.YtcopcajleonndaaQWQ
import Derived.Test.YtcopcajleonndaaQRA2
namespace Go.Proofs.Ytcopcajleonndaa
open Go.RowKit
set_option linter.unusedVariables false
set_option linter.unusedSimpArgs false
theorem Rw.ext {α : Type} {arr : α → Array Value} {sz : Nat} (h : ∀ x, (arr x).size = sz) {cur : Array Value} {n cap : Nat} {l : List α} (rw : Rw cur n cap sz (cellsOf arr l)) {i : Nat} {x : α} (hx : l[i]? = some x) (o : Nat) (ho : o = i * sz) : cur.extract o (o + sz) = arr x := by
  subst ho
  have hi := (List.getElem?_eq_some_iff.1 hx).1
  have hlen : i * sz + sz ≤ (cellsOf arr l).length := by
    rw [cellsOf_len h, ← Nat.succ_mul]; exact Nat.mul_le_mul_right _ hi
  have hsz : i * sz + sz ≤ cur.size := by
    have := rw.fit'; have := rw.len; omega
  apply Array.ext'
  apply List.ext_getElem?
  intro j
  rw [Array.getElem?_toList, Array.getElem?_toList, Array.getElem?_extract]
  by_cases hj : j < sz
  · rw [if_pos (by omega)]
    have hg := cellsOf_get h l i j x hx hj
    rw [← hg, List.getElem?_eq_getElem (by omega)]
    exact rw.get _ _ (List.getElem?_eq_getElem (by omega))
  · rw [if_neg (by omega), Array.getElem?_eq_none (by rw [h]; omega)]
theorem cellsOf_set {α : Type} {arr : α → Array Value} {sz : Nat} (h : ∀ x, (arr x).size = sz) (l : List α) (i : Nat) (y : α) (hi : i < l.length) (m : Nat) : (cellsOf arr (l.set i y))[m]? = if i * sz ≤ m ∧ m < i * sz + sz then (arr y)[m - i * sz]? else (cellsOf arr l)[m]? := by
  induction l generalizing i m with
  | nil => simp at hi
  | cons x l ih =>
    cases i with
    | zero =>
      rw [List.set_cons_zero, cellsOf_cons, cellsOf_cons, Nat.zero_mul]
      by_cases hm : m < sz
      · rw [if_pos (by omega), List.getElem?_append_left (by rw [Array.length_toList, h]; exact hm), Array.getElem?_toList, Nat.sub_zero]
      · rw [if_neg (by omega), List.getElem?_append_right (by rw [Array.length_toList, h]; omega), List.getElem?_append_right (by rw [Array.length_toList, h]; omega), Array.length_toList, Array.length_toList, h, h]
    | succ i =>
      rw [List.set_cons_succ, cellsOf_cons, cellsOf_cons]
      by_cases hm : m < sz
      · rw [List.getElem?_append_left (by rw [Array.length_toList, h]; exact hm), List.getElem?_append_left (by rw [Array.length_toList, h]; exact hm), if_neg (by rw [Nat.succ_mul]; omega)]
      · rw [List.getElem?_append_right (by rw [Array.length_toList, h]; omega), List.getElem?_append_right (by rw [Array.length_toList, h]; omega), Array.length_toList, h, ih i (by simpa using hi)]
        rw [Nat.succ_mul]
        by_cases hc : i * sz ≤ m - sz ∧ m - sz < i * sz + sz
        · rw [if_pos hc, if_pos (by omega), show m - sz - i * sz = m - (i * sz + sz) by omega]
        · rw [if_neg hc, if_neg (by omega)]
theorem Rw.set {α : Type} {arr : α → Array Value} {sz : Nat} (h : ∀ x, (arr x).size = sz) {cur : Array Value} {n cap : Nat} {l : List α} (rw : Rw cur n cap sz (cellsOf arr l)) {i : Nat} (hi : i < l.length) (y : α) (o : Nat) (ho : o = i * sz) : Rw (ovw cur o (arr y).toList) n cap sz (cellsOf arr (l.set i y)) := by
  subst ho
  have hyl : (arr y).toList.length = sz := by rw [Array.length_toList, h]
  have hlen := rw.len
  have hl2 := cellsOf_len h l
  have hlen2 : i * sz + sz ≤ (cellsOf arr l).length := by
    rw [cellsOf_len h, ← Nat.succ_mul]; exact Nat.mul_le_mul_right _ hi
  have hfit := rw.fit'
  refine ⟨rw.le, rw.max, by rw [ovw_size]; exact rw.room, ?_⟩
  apply List.ext_getElem?
  intro m
  rw [cellsOf_set h l i y hi m, List.getElem?_take]
  by_cases hm : m < n * sz
  · rw [if_pos hm, Array.getElem?_toList, ovw_get _ _ _ _ (by rw [hyl]; omega), hyl]
    by_cases hc : i * sz ≤ m ∧ m < i * sz + sz
    · rw [if_pos hc, if_pos hc, Array.getElem?_toList]
    · rw [if_neg hc, if_neg hc, List.getElem?_eq_getElem (by omega : m < (cellsOf arr l).length)]
      exact rw.get _ _ (List.getElem?_eq_getElem (by omega))
  · rw [if_neg hm, if_neg (by omega), List.getElem?_eq_none (by omega)]
/-- A byte's range: all numbers from one to another. -/
def ivArr (x : Nat × Nat) : Array Value := #[.int .i64 ((x.1 : Nat) : Int), .int .i64 ((x.2 : Nat) : Int), .int .i64 ((iB x.1 x.2 : Nat) : Int), .int .i64 ((iO x.1 x.2 : Nat) : Int)]
theorem ivArr.sz (x : Nat × Nat) : (ivArr x).size = 4 := rfl
theorem ivArr.one (x : Nat × Nat) : (ivArr x).all (·.oneCell') = true := by kernel_rfl
theorem el54 : ElT Try.prog 52 54 (.agg #[.int .i64 0, .int .i64 0, .int .i64 0, .int .i64 0]) 4 32 := ⟨by kernel_rfl, by kernel_rfl, by kernel_rfl, by decide⟩
theorem ivArr_one {n : Nat} (h : n ≤ 4294967295) : ivArr (n, n) = #[.int .i64 (n : Int), .int .i64 (n : Int), .int .i64 (n : Int), .int .i64 0] := by
  obtain ⟨h1, h2⟩ := one_iv h
  unfold ivArr
  dsimp only
  rw [h1, h2]; rfl
abbrev full : Nat × Nat := (0, 255)
theorem tidy255 : tidyP 0 255 0 4294967295 = ivP 0 255 ∧ someI 0 255 0 4294967295 = true := by
  have := iv_tidy (lo := 0) (hi := 4294967295) (lo' := 0) (hi' := 255) (by omega) (by omega) (by omega) (by omega)
  have e1 : iB 0 4294967295 = 0 := by decide +kernel
  have e2 : iO 0 4294967295 = 4294967295 := by decide +kernel
  rw [e1, e2] at this
  exact this
theorem c_tidy255 (w : World) : Calls Try.prog 51 #[.agg #[.int .i64 0, .int .i64 255, .int .i64 0, .int .i64 4294967295]] w fun e w' => e = .returned (.agg (ivArr full)) ∧ Below w.heap.size w w' := by
  have := c_RangeTidyI 0 255 0 4294967295 w
  rw [tidy255.1] at this
  exact this
theorem c_l2tidy255 (w : World) : Calls Try.prog 47 #[.agg #[.int .i64 0, .int .i64 255, .int .i64 0, .int .i64 4294967295]] w fun e w' => e = .returned (.agg (ivArr full)) ∧ Below w.heap.size w w' := by
  have := c_l2TidyI tidy255.2 w
  rw [tidy255.1] at this
  exact this
/-- What is known of twelve bytes. -/
structure OkS (S : List (Nat × Nat)) : Prop where
  len : S.length = 12
  all : ∀ x ∈ S, x.1 ≤ x.2 ∧ x.2 ≤ 255
def atS (S : List (Nat × Nat)) (i : Nat) : Nat × Nat := S.getD i full
theorem OkS.at {S : List (Nat × Nat)} (h : OkS S) (i : Nat) : (atS S i).1 ≤ (atS S i).2 ∧ (atS S i).2 ≤ 255 := by
  unfold atS
  rw [List.getD_eq_getElem?_getD]
  cases hx : S[i]? with
  | none => exact ⟨by decide, by decide⟩
  | some x => exact h.all x (List.mem_of_getElem? hx)
theorem OkS.get {S : List (Nat × Nat)} (h : OkS S) {i : Nat} (hi : i < 12) : S[i]? = some (atS S i) := by
  unfold atS
  rw [List.getD_eq_getElem?_getD, List.getElem?_eq_getElem (by rw [h.len]; exact hi)]; rfl
theorem OkS.full : OkS (List.replicate 12 full) := ⟨by simp, fun x hx => by rw [List.eq_of_mem_replicate hx]; exact ⟨by decide, by decide⟩⟩
/-- The numbers of its byte of which a rule holds, or does not. -/
def brR (r : Ru) (S : List (Nat × Nat)) (hl : Bool) : Option (Nat × Nat) := brN r.op (atS S r.at_.toNat).1 (atS S r.at_.toNat).2 r.num.toNat hl
theorem OkS.set {S : List (Nat × Nat)} (h : OkS S) {r : Ru} {hl : Bool} {y : Nat × Nat} (hb : brR r S hl = some y) : OkS (S.set r.at_.toNat y) := by
  have h1 := h.at r.at_.toNat
  have h2 := brN_in h1.1 hb
  refine ⟨by rw [List.length_set, h.len], fun x hx => ?_⟩
  rcases List.mem_or_eq_of_mem_set hx with hx | rfl
  · exact h.all x hx
  · omega
theorem at_lt12 {r : Ru} (h : ruOk r = true) : r.at_.toNat < 12 := by
  have := (ruOk_is h).at0; have := (ruOk_is h).at1; omega
theorem num_le {r : Ru} (h : ruOk r = true) : r.num.toNat ≤ 255 := by
  have := (ruOk_is h).num0; have := (ruOk_is h).num1; omega
theorem Ru.g_at' (r : Ru) (h : ruOk r = true) : r.arr[0]? = some (.int .i64 ((r.at_.toNat : Nat) : Int)) := by
  have := (ruOk_is h).at0
  show some (Value.int .i64 r.at_) = _
  rw [Int.toNat_of_nonneg this]
theorem Ru.g_num' (r : Ru) (h : ruOk r = true) : r.arr[2]? = some (.int .i64 ((r.num.toNat : Nat) : Int)) := by
  have := (ruOk_is h).num0
  show some (Value.int .i64 r.num) = _
  rw [Int.toNat_of_nonneg this]
def optA : Option (Nat × Nat) → Array Value
  | some y => ivArr y
  | none => #[.int .i64 1, .int .i64 0, .int .i64 0, .int .i64 0]
theorem optA.sz (q : Option (Nat × Nat)) : (optA q).size = 4 := by cases q <;> rfl
theorem optA.one (q : Option (Nat × Nat)) : (optA q).all (·.oneCell') = true := by cases q <;> kernel_rfl
theorem optA_P (q : Option (Nat × Nat)) : rvP (optP q) = .agg (optA q) := by cases q <;> rfl
theorem optA_ext (q : Option (Nat × Nat)) : (optA q).extract 0 (0 + 4) = optA q := by cases q <;> kernel_rfl
theorem optA_ovw (q : Option (Nat × Nat)) (a b c d : Value) : ovw #[a, b, c, d] 0 (optA q).toList = optA q := by cases q <;> kernel_rfl
section
variable {r : Ru} (hr : ruOk r = true) {S : List (Nat × Nat)} (hS : OkS S) (hl : Bool)
include hr hS
theorem c_Br : ∃ P' : Int × Int × Int × Int, ∀ w, Calls Try.prog 37 #[.int .i64 r.op, .agg (ivArr (atS S r.at_.toNat)), .agg (ivArr (r.num.toNat, r.num.toNat)), .bool hl] w fun ee w' => ee = .returned (.tuple #[.agg (optA (brR r S hl)), rvP P', .bool (brR r S hl).isSome]) ∧ Below w.heap.size w w' := by
  have h1 := hS.at r.at_.toNat
  have hi := ruOk_is hr
  have hop : inB r.op 12 15 = true := by have := hi.op0; have := hi.op1; simp [inB]; omega
  obtain ⟨P', H⟩ := c_BranchI r.op hop hl h1.1 (Nat.le_trans h1.2 (by decide)) (Nat.le_trans (num_le hr) (by decide))
  refine ⟨P', fun w => ?_⟩
  have := H w
  rw [optA_P] at this
  exact this
theorem sp_br (w : World) : Calls Try.prog 34 #[.agg r.arr, .agg (ivArr (atS S r.at_.toNat)), .bool hl] w fun ee w' => ee = .returned (.tuple #[.agg (optA (brR r S hl)), .bool (brR r S hl).isSome]) ∧ Below w.heap.size w w' := by
  have h1 := hS.at r.at_.toNat
  have hi := ruOk_is hr
  have hop : inB r.op 12 15 = true := by have := hi.op0; have := hi.op1; simp [inB]; omega
  have hn := num_le hr
  obtain ⟨P', H⟩ := c_l2BranchI r.op hop hl h1.1 (Nat.le_trans h1.2 (by decide)) (show r.num.toNat ≤ 4294967295 by omega)
  rw [one_ivP (by omega), Int.toNat_of_nonneg hi.num0] at H
  have := c_l9Range r _ _ _ _ _ _ _ _ _ _ _ _ hl _ w H
  rw [show (Value.agg #[.int .i64 (optP (brN r.op (atS S r.at_.toNat).1 (atS S r.at_.toNat).2 r.num.toNat hl)).1, .int .i64 (optP (brN r.op (atS S r.at_.toNat).1 (atS S r.at_.toNat).2 r.num.toNat hl)).2.1, .int .i64 (optP (brN r.op (atS S r.at_.toNat).1 (atS S r.at_.toNat).2 r.num.toNat hl)).2.2.1, .int .i64 (optP (brN r.op (atS S r.at_.toNat).1 (atS S r.at_.toNat).2 r.num.toNat hl)).2.2.2]) = .agg (optA (brR r S hl)) from optA_P _] at this
  exact this
end
/-- The rules that are left, from the i-th on. -/
def tidR (f : Nat → Ru) : Nat → Nat → List (Nat × Nat) → List Ru
  | 0, _, _ => []
  | k + 1, i, S => match brR (f i) S true with
    | none => tidR f k (i + 1) S
    | some _ => match brR (f i) S false with
      | none => [f i]
      | some y => f i :: tidR f k (i + 1) (S.set (f i).at_.toNat y)
def tidM (f : Nat → Ru) (n : Nat) : List Ru := tidR f n 0 (List.replicate 12 full)
section
variable {f : Nat → Ru} {n i : Nat} {S : List (Nat × Nat)} {o : List Ru} (h : tidM f n = o ++ tidR f (n - i) i S) (hi : i < n)
include h hi
theorem tid_skip (h1 : brR (f i) S true = none) : tidM f n = o ++ tidR f (n - (i + 1)) (i + 1) S := by
  rw [h, show n - i = (n - (i + 1)) + 1 by omega, tidR, h1]
theorem tid_last {y : Nat × Nat} (h1 : brR (f i) S true = some y) (h2 : brR (f i) S false = none) : tidM f n = o ++ [f i] := by
  rw [h, show n - i = (n - (i + 1)) + 1 by omega, tidR, h1, h2]
theorem tid_keep {x y : Nat × Nat} (h1 : brR (f i) S true = some x) (h2 : brR (f i) S false = some y) : tidM f n = (o ++ [f i]) ++ tidR f (n - (i + 1)) (i + 1) (S.set (f i).at_.toNat y) := by
  rw [h, show n - i = (n - (i + 1)) + 1 by omega, tidR, h1, h2]; simp
end
theorem tid_end {f : Nat → Ru} {n i : Nat} {S : List (Nat × Nat)} {o : List Ru} (h : tidM f n = o ++ tidR f (n - i) i S) (hi : ¬ i < n) : tidM f n = o := by
  rw [h, show n - i = 0 by omega, tidR, List.append_nil]
/-- The first so many bytes told, the others not yet. -/
def initS (i : Nat) : List (Nat × Nat) := List.replicate i full ++ List.replicate (12 - i) (0, 0)
theorem initS_set {i : Nat} (h : i < 12) : (initS i).set i full = initS (i + 1) := by
  rcases (by omega : i = 0 ∨ i = 1 ∨ i = 2 ∨ i = 3 ∨ i = 4 ∨ i = 5 ∨ i = 6 ∨ i = 7 ∨ i = 8 ∨ i = 9 ∨ i = 10 ∨ i = 11) with rfl | rfl | rfl | rfl | rfl | rfl | rfl | rfl | rfl | rfl | rfl | rfl <;> rfl
theorem initS_len {i : Nat} (h : i ≤ 12) : (initS i).length = 12 := by simp [initS]; omega
def zero12 : Array Value := (cellsOf ivArr (initS 0)).toArray
theorem zero12_rw : Rw zero12 12 12 4 (cellsOf ivArr (initS 0)) := Rw.lits ivArr.sz (initS 0) (by simp [maxLen, initS])
abbrev NewRu (w : World) (L : List Ru) (e : Ending) (w' : World) : Prop :=
  NewRow w (fun (x : Nat × Array Value) b => .slice (some ⟨b, 0, none⟩) L.length x.1) 39 (fun x => x.2) (fun x => Rw x.2 L.length x.1 5 (cellsOf Ru.arr L)) e w'
end Go.Proofs.Ytcopcajleonndaa
