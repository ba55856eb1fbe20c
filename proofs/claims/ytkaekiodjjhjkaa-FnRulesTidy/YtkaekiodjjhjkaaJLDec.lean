/- The specification's decimals. -/
import Derived.Test.YtkaekiodjjhjkaaJGrp10
import Derived.Test.YtkaekiodjjhjkaaJTk
import Derived.Test.YtkaekiodjjhjkaaJGrp1
import Derived.Test.YtkaekiodjjhjkaaJGrp0
set_option maxRecDepth 100000
set_option maxHeartbeats 4000000
set_option linter.unusedSimpArgs false
set_option linter.unusedVariables false
namespace Go.Proofs.Ytkaekiodjjhjkaa
open Go.RowKit
theorem ret_str {a b : ByteArray} (h : a = b) : Ending.returned (.string a) = .returned (.string b) := by rw [h]
theorem convG (w : World) (B : Nat) (x : Int) (h : w.cell? ⟨B, 0, none⟩ = some (.int .u8 x)) : (convert 22 9 (.slice (some ⟨B, 0, none⟩) 1 1)).run Try.prog w = .ok (.string (strOfNums [x])) w := by
 refine run_convert_bytes_arg _ 22 5 Try.underlying22 Try.underlying5 B 0 1 1 [x] rfl ?_ 9 Try.underlying9
 intro i hi
 obtain rfl : i = 0 := by omega
 simpa using h
theorem conv1 (w : World) (B : Nat) (x : Int) (hB : B = w.heap.size) : (convert 22 9 (.slice (some ⟨B, 0, none⟩) 1 1)).run Try.prog (w.alloc (.cells #[.int .u8 x] 5)) = .ok (.string (strOfNums [x])) (w.alloc (.cells #[.int .u8 x] 5)) := by
 subst hB
 exact convG _ _ _ (by simp [go_sem])
def decS (n : Nat) : ByteArray := if h : n < 10 then strOfNums [48 + (n : Int)] else decS (n / 10) ++ strOfNums [48 + ((n % 10 : Nat) : Int)]
theorem decS_lt {n : Nat} (h : n < 10) : decS n = strOfNums [48 + (n : Int)] := by rw [decS, dif_pos h]
theorem decS_ge {n : Nat} (h : ¬ n < 10) : decS n = decS (n / 10) ++ strOfNums [48 + ((n % 10 : Nat) : Int)] := by rw [decS, dif_neg h]
theorem decS_size : ∀ (k n : Nat), n < 10 ^ (k + 1) → (decS n).size ≤ k + 1
 | 0, n, h => by rw [decS_lt (by simpa using h)]; simp [strOfNums, ByteArray.size]
 | k + 1, n, h => by
   by_cases h1 : n < 10
   ·rw [decS_lt h1]; simp [strOfNums, ByteArray.size]
   ·rw [decS_ge h1]
    have := decS_size k (n / 10) (by rw [Nat.pow_succ] at h; omega)
    have e : (strOfNums [48 + ((n % 10 : Nat) : Int)]).size = 1 := by simp [strOfNums, ByteArray.size]
    rw [ByteArray.size_append, e]
    omega
theorem dec_n : ∀ (m n : Nat), n ≤ m → n ≤ 9223372036854775807 → ∀ w : World, Calls Try.prog 92 #[.int .i64 n] w fun e w' => e = .returned (.string (decS n)) ∧ Below w.heap.size w w' := by
 intro m
 induction m with
 | zero =>
   intro n hm hn w
   obtain rfl : n = 0 := by omega
   have hk := conv1
   go_enter Try.func92, Try.ntmps92
   go_wp2_with fail
   go_ret
   exact ⟨ret_str (by rw [decS_lt (by omega)]; rfl), (Below.refl _ _).alloc (Nat.le_refl _) _⟩
 | succ m ih =>
   intro n hm hn w
   by_cases h10 : n < 10
   ·have h10' : (n : Int) < 10 := by omega
    have h0 : (0 : Int) ≤ (n : Int) := by omega
    have hk := conv1
    clear ih
    go_enter Try.func92, Try.ntmps92
    go_wp2_with fail
    go_ret
    exact ⟨ret_str (by rw [decS_lt h10]), (Below.refl _ _).alloc (Nat.le_refl _) _⟩
   have h10' : ¬ ((n : Int) < 10) := by omega
   have h0 : (0 : Int) ≤ (n : Int) := by omega
   have h1 : (n : Int) ≤ 9223372036854775807 := by omega
   have IH := hid ih
   clear ih
   obtain ⟨q, hq⟩ : ∃ q, q = n / 10 := ⟨_, rfl⟩
   obtain ⟨d, hd⟩ : ∃ d, d = n % 10 := ⟨_, rfl⟩
   have hdl : d < 10 := by omega
   have hqm : q ≤ m := by omega
   have hqn : q ≤ 922337203685477580 := by omega
   have HE : Hid (decS n = decS q ++ strOfNums [48 + (d : Int)]) := by rw [hq, hd]; exact decS_ge h10
   have hds := decS_size 18 q (by omega)
   have hq1 : IntKind.i64.wrap ((n : Int) / 10) = (q : Int) := by rw [IntKind.wrap_i64]; omega
   have hq4 : (n : Int).tmod 10 = (d : Int) := by rw [Int.tmod_eq_emod_of_nonneg (by omega)]; omega
   have hq5 : IntKind.i64.wrap (48 + (d : Int)) = 48 + (d : Int) := by rw [IntKind.wrap_i64]; omega
   have hq6 : IntKind.u8.wrap (48 + (d : Int)) = 48 + (d : Int) := by simp [IntKind.wrap, IntKind.bits, IntKind.signed]; omega
   clear hq hd
   have hsn := strOfNums_size
   have hone : ∀ x : Int, ([x] : List Int).length = 1 := fun _ => rfl
   go_enter Try.func92, Try.ntmps92
   go_wp2_with fail
   refine wp_region_held_drew (S := (fun _ => True)) (by kernel_rfl) (trivial) (fun hHeld => ?_)
   have HZ : Hid (Below w.heap.size w w.drew) := (Below.refl _ _).drew
   generalize w.drew = W1 at *
   refine tkH 0 10 hHeld ?_
   try simp only [Act.put, sA, sB, sC]
   refine wpAnyH_take (i := 1) (oi := ?oi2) (v := .int .i64 (q : Int)) (fuel := 9) ?hi2 ?hs2 ?hf2 ?hr2 ?hq2 (Or.inl ⟨?hw2, ?hy2⟩) hHeld ?rest2
   case hi2 => rw [List.getElem?_toArray]; rfl
   case hq2 => exact fun _ _ _ h => h
   case hs2 | hf2 | hr2 => kernel_rfl
   case hw2 => rfl
   case hy2 => (intro w1 hSw; (try dsimp only at hSw); go_simp; try simp [hq1])
   try simp only [Act.put, sA, sB, sC]
   refine tkH 3 8 hHeld ?_
   try simp only [Act.put, sA, sB, sC]
   refine wpAnyH_take (i := 4) (oi := ?oi4) (v := .int .i64 (d : Int)) (fuel := 7) ?hi4 ?hs4 ?hf4 ?hr4 ?hq4 (Or.inl ⟨?hw4, ?hy4⟩) hHeld ?rest4
   case hi4 => rw [List.getElem?_toArray]; rfl
   case hq4 => exact fun _ _ _ h => h
   case hs4 | hf4 | hr4 => kernel_rfl
   case hw4 => rfl
   case hy4 => (intro w1 hSw; (try dsimp only at hSw); go_simp; try simp [hq4])
   try simp only [Act.put, sA, sB, sC]
   refine wpAnyH_take (i := 5) (oi := ?oi5) (v := .int .i64 (48 + (d : Int))) (fuel := 6) ?hi5 ?hs5 ?hf5 ?hr5 ?hq5 (Or.inl ⟨?hw5, ?hy5⟩) hHeld ?rest5
   case hi5 => rw [List.getElem?_toArray]; rfl
   case hq5 => exact fun _ _ _ h => h
   case hs5 | hf5 | hr5 => kernel_rfl
   case hw5 => rfl
   case hy5 => (intro w1 hSw; (try dsimp only at hSw); go_simp; try simp [hq5])
   try simp only [Act.put, sA, sB, sC]
   refine wpAnyH_take (i := 6) (oi := ?oi6) (v := .int .u8 (48 + (d : Int))) (fuel := 5) ?hi6 ?hs6 ?hf6 ?hr6 ?hq6 (Or.inl ⟨?hw6, ?hy6⟩) hHeld ?rest6
   case hi6 => rw [List.getElem?_toArray]; rfl
   case hq6 => exact fun _ _ _ h => h
   case hs6 | hf6 | hr6 => kernel_rfl
   case hw6 => rfl
   case hy6 => (intro w1 hSw; (try dsimp only at hSw); go_simp; try simp [hq6])
   try simp only [Act.put, sA, sB, sC]
   refine wpAnyH_ready (fuel := 4) (rs := [2, 7]) (by kernel_rfl) (by simp) ?_
   refine AllReadyH.cons (o := ?oi7) ?hi7 (fun K hK => ?st7) ?mo7
   case hi7 => rw [List.getElem?_toArray]; rfl
   case st7 =>
    go_simp
    refine (IH.out q (by omega) (by omega) W1).mono ?_
    rintro ee wr2 ⟨rfl, b2⟩
    replace HZ := hid (HZ.out.to b2)
    clear b2
    go_wp2_with fail
    refine hK.out _ _ ?hS7 (fun hHeld => ?re7)
    case hS7 => trivial
    clear hK K
    try simp only [Act.put, sA, sB, sC]
    refine wpAnyH_ready (fuel := 3) (rs := [7]) (by kernel_rfl) (by simp) ?_
    refine AllReadyH.cons (by rw [List.getElem?_toArray]; rfl) (fun K hK => ?_) AllReadyH.nil
    go_simp
    have HC : Hid ((wr2.alloc (.cells #[.int .u8 (48 + (d : Int))] 5)).cell? ⟨wr2.heap.size, 0, none⟩ = some (.int .u8 (48 + (d : Int)))) := by show (wr2.alloc (.cells #[.int .u8 (48 + (d : Int))] 5)).cell? _ = _; simp [go_sem]
    have lG : wr2.heap.size < (wr2.alloc (.cells #[.int .u8 (48 + (d : Int))] 5)).heap.size := by simp
    replace HZ := hid (HZ.out.alloc HZ.out.size (.cells #[.int .u8 (48 + (d : Int))] 5))
    generalize wr2.alloc (.cells #[.int .u8 (48 + (d : Int))] 5) = wr7 at *
    generalize wr2.heap.size = G at *
    refine hK.out _ _ ?hS8 (fun hHeld => ?re8)
    case hS8 => trivial
    clear hK K
    try simp only [Act.put, sA, sB, sC]
    refine wpAnyH_ready (fuel := 2) (rs := [8]) (by kernel_rfl) (by simp) ?_
    refine AllReadyH.cons (by rw [List.getElem?_toArray]; rfl) (fun K hK => ?_) AllReadyH.nil
    have hcv := convG wr7 G (48 + (d : Int)) HC.out
    go_simp
    clear hcv
    refine hK.out _ _ ?hS9 (fun hHeld => ?re9)
    case hS9 => trivial
    clear hK K
    try simp only [Act.put, sA, sB, sC]
    refine wpAnyH_take (i := 9) (oi := ?oi10) (v := .string (decS q ++ strOfNums [48 + (d : Int)])) (fuel := 1) ?hi10 ?hs10 ?hf10 ?hr10 ?hq10 (Or.inl ⟨?hw10, ?hy10⟩) hHeld ?rest10
    case hi10 => rw [List.getElem?_toArray]; rfl
    case hq10 => exact fun _ _ _ h => h
    case hs10 | hf10 | hr10 => kernel_rfl
    case hw10 => rfl
    case hy10 => (intro w1 hSw; (try dsimp only at hSw); go_simp; omega)
    try simp only [Act.put, sA, sB, sC]
    refine tkH 10 0 hHeld ?_
    try simp only [Act.put, sA, sB, sC]
    refine wpAnyH_done (by kernel_rfl) ?_ _
    clear hHeld
    go_wp2_with fail
    go_ret
    exact ⟨ret_str HE.out.symm, HZ.out⟩
   refine AllReadyH.cons (o := ?oi12) ?hi12 (fun K hK => ?st12) ?mo12
   case hi12 => rw [List.getElem?_toArray]; rfl
   case st12 =>
    go_simp
    have HC : Hid ((W1.alloc (.cells #[.int .u8 (48 + (d : Int))] 5)).cell? ⟨W1.heap.size, 0, none⟩ = some (.int .u8 (48 + (d : Int)))) := by show (W1.alloc (.cells #[.int .u8 (48 + (d : Int))] 5)).cell? _ = _; simp [go_sem]
    have lG : W1.heap.size < (W1.alloc (.cells #[.int .u8 (48 + (d : Int))] 5)).heap.size := by simp
    replace HZ := hid (HZ.out.alloc HZ.out.size (.cells #[.int .u8 (48 + (d : Int))] 5))
    generalize W1.alloc (.cells #[.int .u8 (48 + (d : Int))] 5) = wr7 at *
    generalize W1.heap.size = G at *
    refine hK.out _ _ ?hS12 (fun hHeld => ?re12)
    case hS12 => trivial
    clear hK K
    try simp only [Act.put, sA, sB, sC]
    refine wpAnyH_ready (fuel := 3) (rs := [2, 8]) (by kernel_rfl) (by simp) ?_
    refine AllReadyH.cons (o := ?oi13) ?hi13 (fun K hK => ?st13) ?mo13
    case hi13 => rw [List.getElem?_toArray]; rfl
    case st13 =>
     go_simp
     refine (IH.out q (by omega) (by omega) wr7).mono ?_
     rintro ee wr2 ⟨rfl, b2⟩
     replace HZ := hid (HZ.out.to b2)
     replace HC := hid ((b2.cell (p := ⟨G, 0, none⟩) lG).trans HC.out)
     have lG2 := Nat.lt_of_lt_of_le lG b2.size
     clear lG
     clear b2
     go_wp2_with fail
     refine hK.out _ _ ?hS13 (fun hHeld => ?re13)
     case hS13 => trivial
     clear hK K
     try simp only [Act.put, sA, sB, sC]
     refine wpAnyH_ready (fuel := 2) (rs := [8]) (by kernel_rfl) (by simp) ?_
     refine AllReadyH.cons (by rw [List.getElem?_toArray]; rfl) (fun K hK => ?_) AllReadyH.nil
     have hcv := convG wr2 G (48 + (d : Int)) HC.out
     go_simp
     clear hcv
     refine hK.out _ _ ?hS14 (fun hHeld => ?re14)
     case hS14 => trivial
     clear hK K
     try simp only [Act.put, sA, sB, sC]
     refine wpAnyH_take (i := 9) (oi := ?oi15) (v := .string (decS q ++ strOfNums [48 + (d : Int)])) (fuel := 1) ?hi15 ?hs15 ?hf15 ?hr15 ?hq15 (Or.inl ⟨?hw15, ?hy15⟩) hHeld ?rest15
     case hi15 => rw [List.getElem?_toArray]; rfl
     case hq15 => exact fun _ _ _ h => h
     case hs15 | hf15 | hr15 => kernel_rfl
     case hw15 => rfl
     case hy15 => (intro w1 hSw; (try dsimp only at hSw); go_simp; omega)
     try simp only [Act.put, sA, sB, sC]
     refine tkH 10 0 hHeld ?_
     try simp only [Act.put, sA, sB, sC]
     refine wpAnyH_done (by kernel_rfl) ?_ _
     clear hHeld
     go_wp2_with fail
     go_ret
     exact ⟨ret_str HE.out.symm, HZ.out⟩
    refine AllReadyH.cons (o := ?oi17) ?hi17 (fun K hK => ?st17) ?mo17
    case hi17 => rw [List.getElem?_toArray]; rfl
    case st17 =>
     have hcv := convG wr7 G (48 + (d : Int)) HC.out
     go_simp
     clear hcv
     refine hK.out _ _ ?hS17 (fun hHeld => ?re17)
     case hS17 => trivial
     clear hK K
     try simp only [Act.put, sA, sB, sC]
     refine wpAnyH_ready (fuel := 2) (rs := [2]) (by kernel_rfl) (by simp) ?_
     refine AllReadyH.cons (by rw [List.getElem?_toArray]; rfl) (fun K hK => ?_) AllReadyH.nil
     go_simp
     refine (IH.out q (by omega) (by omega) wr7).mono ?_
     rintro ee wr2 ⟨rfl, b2⟩
     replace HZ := hid (HZ.out.to b2)
     replace HC := hid ((b2.cell (p := ⟨G, 0, none⟩) lG).trans HC.out)
     have lG2 := Nat.lt_of_lt_of_le lG b2.size
     clear lG
     clear b2
     go_wp2_with fail
     refine hK.out _ _ ?hS18 (fun hHeld => ?re18)
     case hS18 => trivial
     clear hK K
     try simp only [Act.put, sA, sB, sC]
     refine wpAnyH_take (i := 9) (oi := ?oi19) (v := .string (decS q ++ strOfNums [48 + (d : Int)])) (fuel := 1) ?hi19 ?hs19 ?hf19 ?hr19 ?hq19 (Or.inl ⟨?hw19, ?hy19⟩) hHeld ?rest19
     case hi19 => rw [List.getElem?_toArray]; rfl
     case hq19 => exact fun _ _ _ h => h
     case hs19 | hf19 | hr19 => kernel_rfl
     case hw19 => rfl
     case hy19 => (intro w1 hSw; (try dsimp only at hSw); go_simp; omega)
     try simp only [Act.put, sA, sB, sC]
     refine tkH 10 0 hHeld ?_
     try simp only [Act.put, sA, sB, sC]
     refine wpAnyH_done (by kernel_rfl) ?_ _
     clear hHeld
     go_wp2_with fail
     go_ret
     exact ⟨ret_str HE.out.symm, HZ.out⟩
    exact AllReadyH.nil
   exact AllReadyH.nil
end Go.Proofs.Ytkaekiodjjhjkaa
