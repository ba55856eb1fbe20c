/- Rules and bytes: the verdict, by both. -/
import Derived.Test.YtcopcajleonndaaRA2
import Derived.Test.YtcopcajleonndaaDO
import Derived.Test.YtcopcajleonndaaWO
namespace Go.Proofs.Ytcopcajleonndaa
open Go.RowKit
set_option linter.unusedVariables false
set_option linter.unusedSimpArgs false
theorem one9 : OneT Try.prog 9 := ⟨fun w => by kernel_rfl, fun w => by kernel_rfl⟩
/-- Whether a rule holds of bytes. -/
def holdsR (r : Ru) (s : ByteArray) : Bool := holdsB r.op ((byteAt s r.at_.toNat : Nat) : Int) r.num
theorem Ru.g_at (r : Ru) (h : ruOk r = true) : r.arr[0]? = some (.int .i64 ((r.at_.toNat : Nat) : Int)) := by
  have := (ruOk_is h).at0
  show some (Value.int .i64 r.at_) = _
  rw [Int.toNat_of_nonneg this]
theorem at_lt {r : Ru} (h : ruOk r = true) {s : ByteArray} (hs : s.size = 12) : r.at_.toNat < s.size := by
  have := (ruOk_is h).at0; have := (ruOk_is h).at1; omega
theorem c_HoldsR (r : Ru) (s : ByteArray) (w : World) (h : ruOk r = true) : Calls Try.prog 44 #[.int .i64 r.op, .int .i64 ((byteAt s r.at_.toNat : Nat) : Int), .int .i64 r.num] w fun e w' => e = .returned (.bool (holdsR r s)) ∧ Below w.heap.size w w' := by
  have hi := ruOk_is h
  have e : holdsR r s = holdsI r.op ((byteAt s r.at_.toNat : Nat) : Int) r.num := by
    have h1 := hi.op0; have h2 := hi.op1; have h3 := hi.num0; have h4 := hi.num1
    have h5 : byteAt s r.at_.toNat < 256 := byteAt_lt _ _
    have a1 : inB r.op 12 15 = true := by simp [inB]; omega
    have a2 : inB ((byteAt s r.at_.toNat : Nat) : Int) 0 4294967295 = true := by simp [inB]; omega
    have a3 : inB r.num 0 4294967295 = true := by simp [inB]; omega
    rw [holdsI, a1, a2, a3]; rfl
  rw [e]
  exact c_Holds _ _ _ w
/-- The verdict from the i-th rule on, and the key. -/
def ofR (f : Nat → Ru) (s : ByteArray) : Nat → Nat → Int × Int
  | 0, _ => (1, 0)
  | k + 1, i => if holdsR (f i) s then ((f i).ver, (f i).key) else ofR f s k (i + 1)
theorem ofR_run {f : Nat → Ru} {s : ByteArray} {n : Nat} : ∀ {i : Nat}, i ≤ n → (∀ j, j < i → holdsR (f j) s = false) → ofR f s n 0 = ofR f s (n - i) i
  | 0, _, _ => rfl
  | i + 1, hi, h => by
    rw [ofR_run (i := i) (by omega) (fun j hj => h j (by omega)), show n - i = (n - (i + 1)) + 1 by omega, ofR, h i (by omega)]; rfl
theorem ofR_at {f : Nat → Ru} {s : ByteArray} {n i : Nat} (hi : i < n) (h : ∀ j, j < i → holdsR (f j) s = false) (hh : holdsR (f i) s = true) : ofR f s n 0 = ((f i).ver, (f i).key) := by
  rw [ofR_run (Nat.le_of_lt hi) h, show n - i = (n - (i + 1)) + 1 by omega, ofR, hh]; rfl
theorem ofR_end {f : Nat → Ru} {s : ByteArray} {n : Nat} (h : ∀ j, j < n → holdsR (f j) s = false) : ofR f s n 0 = (1, 0) := by
  rw [ofR_run (Nat.le_refl n) h, Nat.sub_self]; rfl
def ofM (f : Nat → Ru) (n : Nat) (s : ByteArray) : Int × Int := if ruOks f n && decide (s.size = 12) then ofR f s n 0 else (-1, 0)
theorem ofM_no {f : Nat → Ru} {n : Nat} {s : ByteArray} (h : ruOks f n = false) : ofM f n s = (-1, 0) := by simp [ofM, h]
theorem ofM_no2 {f : Nat → Ru} {n : Nat} {s : ByteArray} (h : s.size ≠ 12) : ofM f n s = (-1, 0) := by simp [ofM, h]
theorem ofM_yes {f : Nat → Ru} {n : Nat} {s : ByteArray} (h : ruOks f n = true) (hs : s.size = 12) : ofM f n s = ofR f s n 0 := by simp [ofM, h, hs]
theorem c_rulingOf (r : Ru) (w : World)  :
    Calls Try.prog 28 #[.agg (Ru.arr (r))] w fun e w' => NewRow w (fun (_ : Unit) b => .func (.func 43) #[] #[.pointer (some ⟨b, 0, none⟩)]) 39 (fun _ => r.arr) (fun _ => True) e w' := by
  refine calls_begin Try.func28 rfl 4 rfl (Nat.le_of_ble_eq_true rfl) [(0, .agg (Ru.arr (r)))] ⟨rfl, trivial⟩ (fun a0 he0 hm0 => ?_)
  refine wp_seqR ?_
  refine wl_box he0 hm0 1 rfl rfl rfl _ _ rfl _ (he0.tmp 0 _ rfl) (Ru.arr (r)) rfl (fun a1 w1 b1 he1 hm1 => ?_)
  clear he0 hm0
  refine wl_val he1 rfl rfl (.nilFunc) (rn_move _ (Or.inr rfl) _ rfl) (fun a2 he2 => ?_)
  clear he1
  refine wl_end ?_
  refine wp_seqR ?_
  refine wl_val he2 rfl rfl (.func (.func 43) #[] #[.pointer (some ⟨b1, 0, none⟩)]) (rn_func _ _ _ rfl _ _ (map0 _) (map1 (he2.tmp 1 _ rfl))) (fun a3 he3 => ?_)
  clear he2
  refine wl_val he3 rfl rfl (.func (.func 43) #[] #[.pointer (some ⟨b1, 0, none⟩)]) (rn_move _ (Or.inr rfl) _ (he3.tmp 3 _ rfl)) (fun a4 he4 => ?_)
  clear he3
  refine wl_end ?_
  refine wp_ret ?_
  exact bodyPost_ret (results_tmp he4 _ Try.results28 _ rfl) he4.defers ⟨(), _, rfl, hm1.bx 1 _ _ _ _ rfl, trivial, by have := hm1.own 1 _ rfl rfl; simpa using this, hm1.below⟩
theorem c_ruling (r : Ru) (b : Nat) (s : ByteArray) (w : World) (hB : BX w b 39 r.arr) (hok : ruOk r = true) (hs12 : s.size = 12) :
    Calls Try.prog 43 #[.string (s), .pointer (some ⟨b, 0, none⟩)] w fun e w' => e = .returned (.bool (holdsR r s)) ∧ Below w.heap.size w w' := by
  refine calls_begin Try.func43 rfl 14 rfl (Nat.le_of_ble_eq_true rfl) [(0, .string (s)), (1, .pointer (some ⟨b, 0, none⟩))] ⟨rfl, rfl, trivial⟩ (fun a0 he0 hm0 => ?_)
  have hm1 := hm0.old 1 b 39 _ rfl hB (by simp)
  clear hm0
  refine wp_seqR ?_
  refine wl_val he0 rfl rfl (.bool false) (rn_move _ (Or.inr rfl) _ rfl) (fun a1 he1 => ?_)
  clear he0
  refine wl_end ?_
  refine wp_seq ?_
  refine wh_begin (by kernel_rfl) hm1 [(1, ⟨false, b, 39, Ru.arr (r)⟩)] ⟨rfl, trivial⟩ (fun w2 hm2 => ?_)
  clear hm1
  refine wh_take (i := 0) (op := ?op1d_0) (fuel := 10) (hi := ?hi1d_0) (hs := ?hs1d_0) (hf := ?hf1d_0) (hr := ?hr1d_0) (hQ2 := ?hq1d_0) (he := he1) (hm := hm2) (hS := ⟨rfl, trivial⟩) (hd := ?hd1d_0) (hw := ?hw1d_0) (v := .pointer (some ⟨b, 1, none⟩)) (hy := ?hy1d_0) (hQ := ?hp1d_0) (k := fun a2 he2 => ?k1d_0)
  case hi1d_0 => rw [List.getElem?_toArray]; rfl
  case hs1d_0 | hf1d_0 | hr1d_0 => kernel_rfl
  case hq1d_0 => exact fun _ _ _ _ h => h
  case hd1d_0 => rfl
  case hw1d_0 => exact rfl
  case hp1d_0 => exact fun _ _ _ h => h
  case hy1d_0 => exact fun wS hmS => rn_field _ _ _ rfl _ (.pointer (some ⟨b, 1, none⟩)) (he1.tmp 1 _ rfl) (by kernel_rfl)
  clear he1
  refine wh_take (i := 1) (op := ?op1d_1) (fuel := 9) (hi := ?hi1d_1) (hs := ?hs1d_1) (hf := ?hf1d_1) (hr := ?hr1d_1) (hQ2 := ?hq1d_1) (he := he2) (hm := hm2) (hS := ⟨rfl, trivial⟩) (hd := ?hd1d_1) (hw := ?hw1d_1) (v := .int .i64 ((r).op)) (hy := ?hy1d_1) (hQ := ?hp1d_1) (k := fun a3 he3 => ?k1d_1)
  case hi1d_1 => rw [List.getElem?_toArray]; rfl
  case hs1d_1 | hf1d_1 | hr1d_1 => kernel_rfl
  case hq1d_1 => exact fun _ _ _ _ h => h
  case hd1d_1 => rfl
  case hw1d_1 => exact rfl
  case hp1d_1 => exact fun _ _ _ h => h
  case hy1d_1 => exact fun wS hmS => rn_load1 hmS 1 rfl _ _ rfl (1) (he2.tmp 4 _ rfl) one3 _ rfl
  clear he2
  refine wh_take (i := 2) (op := ?op1d_2) (fuel := 8) (hi := ?hi1d_2) (hs := ?hs1d_2) (hf := ?hf1d_2) (hr := ?hr1d_2) (hQ2 := ?hq1d_2) (he := he3) (hm := hm2) (hS := ⟨rfl, trivial⟩) (hd := ?hd1d_2) (hw := ?hw1d_2) (v := .string (s)) (hy := ?hy1d_2) (hQ := ?hp1d_2) (k := fun a4 he4 => ?k1d_2)
  case hi1d_2 => rw [List.getElem?_toArray]; rfl
  case hs1d_2 | hf1d_2 | hr1d_2 => kernel_rfl
  case hq1d_2 => exact fun _ _ _ _ h => h
  case hd1d_2 => rfl
  case hw1d_2 => exact rfl
  case hp1d_2 => exact fun _ _ _ h => h
  case hy1d_2 => exact fun wS hmS => rn_move _ (Or.inl rfl) _ (he3.tmp 0 _ rfl)
  clear he3
  refine wh_take (i := 3) (op := ?op1d_3) (fuel := 7) (hi := ?hi1d_3) (hs := ?hs1d_3) (hf := ?hf1d_3) (hr := ?hr1d_3) (hQ2 := ?hq1d_3) (he := he4) (hm := hm2) (hS := ⟨rfl, trivial⟩) (hd := ?hd1d_3) (hw := ?hw1d_3) (v := .pointer (some ⟨b, 0, none⟩)) (hy := ?hy1d_3) (hQ := ?hp1d_3) (k := fun a5 he5 => ?k1d_3)
  case hi1d_3 => rw [List.getElem?_toArray]; rfl
  case hs1d_3 | hf1d_3 | hr1d_3 => kernel_rfl
  case hq1d_3 => exact fun _ _ _ _ h => h
  case hd1d_3 => rfl
  case hw1d_3 => exact rfl
  case hp1d_3 => exact fun _ _ _ h => h
  case hy1d_3 => exact fun wS hmS => rn_field _ _ _ rfl _ (.pointer (some ⟨b, 0, none⟩)) (he4.tmp 1 _ rfl) (by kernel_rfl)
  clear he4
  refine wh_take (i := 4) (op := ?op1d_4) (fuel := 6) (hi := ?hi1d_4) (hs := ?hs1d_4) (hf := ?hf1d_4) (hr := ?hr1d_4) (hQ2 := ?hq1d_4) (he := he5) (hm := hm2) (hS := ⟨rfl, trivial⟩) (hd := ?hd1d_4) (hw := ?hw1d_4) (v := .int .i64 ((((r).at_.toNat : Nat) : Int))) (hy := ?hy1d_4) (hQ := ?hp1d_4) (k := fun a6 he6 => ?k1d_4)
  case hi1d_4 => rw [List.getElem?_toArray]; rfl
  case hs1d_4 | hf1d_4 | hr1d_4 => kernel_rfl
  case hq1d_4 => exact fun _ _ _ _ h => h
  case hd1d_4 => rfl
  case hw1d_4 => exact rfl
  case hp1d_4 => exact fun _ _ _ h => h
  case hy1d_4 => exact fun wS hmS => rn_load1 hmS 1 rfl _ _ rfl (0) (he5.tmp 7 _ rfl) one3 _ (Ru.g_at _ hok)
  clear he5
  refine wh_take (i := 5) (op := ?op1d_5) (fuel := 5) (hi := ?hi1d_5) (hs := ?hs1d_5) (hf := ?hf1d_5) (hr := ?hr1d_5) (hQ2 := ?hq1d_5) (he := he6) (hm := hm2) (hS := ⟨rfl, trivial⟩) (hd := ?hd1d_5) (hw := ?hw1d_5) (v := .int .u8 (((byteAt (s) ((r).at_.toNat) : Nat) : Int))) (hy := ?hy1d_5) (hQ := ?hp1d_5) (k := fun a7 he7 => ?k1d_5)
  case hi1d_5 => rw [List.getElem?_toArray]; rfl
  case hs1d_5 | hf1d_5 | hr1d_5 => kernel_rfl
  case hq1d_5 => exact fun _ _ _ _ h => h
  case hd1d_5 => rfl
  case hw1d_5 => exact rfl
  case hp1d_5 => exact fun _ _ _ h => h
  case hy1d_5 => exact fun wS hmS => rn_sbyte _ (by kernel_rfl) _ _ rfl _ ((r).at_.toNat) (he6.tmp 6 _ rfl) (he6.tmp 8 _ rfl) (at_lt hok hs12)
  clear he6
  refine wh_take (i := 6) (op := ?op1d_6) (fuel := 4) (hi := ?hi1d_6) (hs := ?hs1d_6) (hf := ?hf1d_6) (hr := ?hr1d_6) (hQ2 := ?hq1d_6) (he := he7) (hm := hm2) (hS := ⟨rfl, trivial⟩) (hd := ?hd1d_6) (hw := ?hw1d_6) (v := .int .i64 (((byteAt (s) ((r).at_.toNat) : Nat) : Int))) (hy := ?hy1d_6) (hQ := ?hp1d_6) (k := fun a8 he8 => ?k1d_6)
  case hi1d_6 => rw [List.getElem?_toArray]; rfl
  case hs1d_6 | hf1d_6 | hr1d_6 => kernel_rfl
  case hq1d_6 => exact fun _ _ _ _ h => h
  case hd1d_6 => rfl
  case hw1d_6 => exact rfl
  case hp1d_6 => exact fun _ _ _ h => h
  case hy1d_6 => exact fun wS hmS => rn_conv _ _ _ rfl _ (.int .i64 (IntKind.i64.wrap (((byteAt (s) ((r).at_.toNat) : Nat) : Int)))) _ (he7.tmp 9 _ rfl) (by kernel_rfl) (cvn (n := byteAt (s) ((r).at_.toNat)) (by first | omega | exact Nat.le_trans (Nat.le_of_lt (byteAt_lt _ _)) (by decide)))
  clear he7
  refine wh_take (i := 7) (op := ?op1d_7) (fuel := 3) (hi := ?hi1d_7) (hs := ?hs1d_7) (hf := ?hf1d_7) (hr := ?hr1d_7) (hQ2 := ?hq1d_7) (he := he8) (hm := hm2) (hS := ⟨rfl, trivial⟩) (hd := ?hd1d_7) (hw := ?hw1d_7) (v := .pointer (some ⟨b, 2, none⟩)) (hy := ?hy1d_7) (hQ := ?hp1d_7) (k := fun a9 he9 => ?k1d_7)
  case hi1d_7 => rw [List.getElem?_toArray]; rfl
  case hs1d_7 | hf1d_7 | hr1d_7 => kernel_rfl
  case hq1d_7 => exact fun _ _ _ _ h => h
  case hd1d_7 => rfl
  case hw1d_7 => exact rfl
  case hp1d_7 => exact fun _ _ _ h => h
  case hy1d_7 => exact fun wS hmS => rn_field _ _ _ rfl _ (.pointer (some ⟨b, 2, none⟩)) (he8.tmp 1 _ rfl) (by kernel_rfl)
  clear he8
  refine wh_take (i := 8) (op := ?op1d_8) (fuel := 2) (hi := ?hi1d_8) (hs := ?hs1d_8) (hf := ?hf1d_8) (hr := ?hr1d_8) (hQ2 := ?hq1d_8) (he := he9) (hm := hm2) (hS := ⟨rfl, trivial⟩) (hd := ?hd1d_8) (hw := ?hw1d_8) (v := .int .i64 ((r).num)) (hy := ?hy1d_8) (hQ := ?hp1d_8) (k := fun a10 he10 => ?k1d_8)
  case hi1d_8 => rw [List.getElem?_toArray]; rfl
  case hs1d_8 | hf1d_8 | hr1d_8 => kernel_rfl
  case hq1d_8 => exact fun _ _ _ _ h => h
  case hd1d_8 => rfl
  case hw1d_8 => exact rfl
  case hp1d_8 => exact fun _ _ _ h => h
  case hy1d_8 => exact fun wS hmS => rn_load1 hmS 1 rfl _ _ rfl (2) (he9.tmp 11 _ rfl) one3 _ rfl
  clear he9
  cases hd1 : (holdsR (r) s)
  · refine wh_call (i := 9) (op := ?op1d0_9) (fuel := 1) ?hr1d0_9 ?hi1d0_9 he10 hm2 ⟨rfl, trivial⟩ ?hd1d0_9 ?hw1d0_9 _ #[.int .i64 ((r).op), .int .i64 (((byteAt (s) ((r).at_.toNat) : Nat) : Int)), .int .i64 ((r).num)] ?en1d0_9 (.bool false) (callsV (congrArg Value.bool (hd1)) (c_HoldsR _ s _ hok)) (fun a11 w3 he11 hm3 => ?k1d0_9)
    case hi1d0_9 => rw [List.getElem?_toArray]; rfl
    case hw1d0_9 => exact rfl
    case hr1d0_9 => kernel_rfl
    case hd1d0_9 => rfl
    case en1d0_9 => exact (enter_call _ _ _ rfl 44 #[] #[] rfl #[.int .i64 ((r).op), .int .i64 (((byteAt (s) ((r).at_.toNat) : Nat) : Int)), .int .i64 ((r).num)] (map3 (he10.tmp 5 _ rfl) (he10.tmp 10 _ rfl) (he10.tmp 12 _ rfl)) #[.int .i64 ((r).op), .int .i64 (((byteAt (s) ((r).at_.toNat) : Nat) : Int)), .int .i64 ((r).num)] rfl (fun _ _ => by kernel_rfl))
    clear he10 hm2
    refine wh_take (i := 10) (op := ?op1d0_10) (fuel := 0) (hi := ?hi1d0_10) (hs := ?hs1d0_10) (hf := ?hf1d0_10) (hr := ?hr1d0_10) (hQ2 := ?hq1d0_10) (he := he11) (hm := hm3) (hS := ⟨rfl, trivial⟩) (hd := ?hd1d0_10) (hw := ?hw1d0_10) (v := .bool false) (hy := ?hy1d0_10) (hQ := ?hp1d0_10) (k := fun a12 he12 => ?k1d0_10)
    case hi1d0_10 => rw [List.getElem?_toArray]; rfl
    case hs1d0_10 | hf1d0_10 | hr1d0_10 => kernel_rfl
    case hq1d0_10 => exact fun _ _ _ _ h => h
    case hd1d0_10 => rfl
    case hw1d0_10 => exact rfl
    case hp1d0_10 => exact fun _ _ _ h => h
    case hy1d0_10 => exact fun wS hmS => rn_move _ (Or.inr rfl) _ (he11.tmp 13 _ rfl)
    clear he11
    refine wpAnyH_done (by kernel_rfl) ?_ _
    refine then_normal ?_
    refine wp_ret ?_
    exact bodyPost_ret (results_tmp he12 _ Try.results43 _ rfl) he12.defers ⟨(by simp only [hd1]), hm3.below⟩
  · refine wh_call (i := 9) (op := ?op1d1_9) (fuel := 1) ?hr1d1_9 ?hi1d1_9 he10 hm2 ⟨rfl, trivial⟩ ?hd1d1_9 ?hw1d1_9 _ #[.int .i64 ((r).op), .int .i64 (((byteAt (s) ((r).at_.toNat) : Nat) : Int)), .int .i64 ((r).num)] ?en1d1_9 (.bool true) (callsV (congrArg Value.bool (hd1)) (c_HoldsR _ s _ hok)) (fun a11 w3 he11 hm3 => ?k1d1_9)
    case hi1d1_9 => rw [List.getElem?_toArray]; rfl
    case hw1d1_9 => exact rfl
    case hr1d1_9 => kernel_rfl
    case hd1d1_9 => rfl
    case en1d1_9 => exact (enter_call _ _ _ rfl 44 #[] #[] rfl #[.int .i64 ((r).op), .int .i64 (((byteAt (s) ((r).at_.toNat) : Nat) : Int)), .int .i64 ((r).num)] (map3 (he10.tmp 5 _ rfl) (he10.tmp 10 _ rfl) (he10.tmp 12 _ rfl)) #[.int .i64 ((r).op), .int .i64 (((byteAt (s) ((r).at_.toNat) : Nat) : Int)), .int .i64 ((r).num)] rfl (fun _ _ => by kernel_rfl))
    clear he10 hm2
    refine wh_take (i := 10) (op := ?op1d1_10) (fuel := 0) (hi := ?hi1d1_10) (hs := ?hs1d1_10) (hf := ?hf1d1_10) (hr := ?hr1d1_10) (hQ2 := ?hq1d1_10) (he := he11) (hm := hm3) (hS := ⟨rfl, trivial⟩) (hd := ?hd1d1_10) (hw := ?hw1d1_10) (v := .bool true) (hy := ?hy1d1_10) (hQ := ?hp1d1_10) (k := fun a12 he12 => ?k1d1_10)
    case hi1d1_10 => rw [List.getElem?_toArray]; rfl
    case hs1d1_10 | hf1d1_10 | hr1d1_10 => kernel_rfl
    case hq1d1_10 => exact fun _ _ _ _ h => h
    case hd1d1_10 => rfl
    case hw1d1_10 => exact rfl
    case hp1d1_10 => exact fun _ _ _ h => h
    case hy1d1_10 => exact fun wS hmS => rn_move _ (Or.inr rfl) _ (he11.tmp 13 _ rfl)
    clear he11
    refine wpAnyH_done (by kernel_rfl) ?_ _
    refine then_normal ?_
    refine wp_ret ?_
    exact bodyPost_ret (results_tmp he12 _ Try.results43 _ rfl) he12.defers ⟨(by simp only [hd1]), hm3.below⟩
theorem c_Of (f : Nat → Ru) (b p n c : Nat) (s : ByteArray) (w : World) (hR : RowAt w b p n 5 fun i => (f i).arr) (hn : n ≤ 1048576) :
    Calls Try.prog 13 #[.slice (some ⟨b, p, none⟩) (n) (c), .string (s)] w fun e w' => e = .returned (.tuple #[.int .i64 (ofM f n s).1, .int .i64 (ofM f n s).2]) ∧ Below w.heap.size w w' := by
  refine calls_begin Try.func13 rfl 33 rfl (Nat.le_of_ble_eq_true rfl) [(0, .slice (some ⟨b, p, none⟩) (n) (c)), (1, .string (s))] ⟨rfl, rfl, trivial⟩ (fun a0 he0 hm0 => ?_)
  refine wp_seqR ?_
  refine wl_val he0 rfl rfl (.int .i64 (0)) (rn_move _ (Or.inr rfl) _ rfl) (fun a1 he1 => ?_)
  clear he0
  refine wl_val he1 rfl rfl (.int .i64 (0)) (rn_move _ (Or.inr rfl) _ rfl) (fun a2 he2 => ?_)
  clear he1
  refine wl_end ?_
  refine wp_seq ?_
  refine wp_seqR ?_
  refine wl_val he2 rfl rfl (.slice (some ⟨b, p, none⟩) (n) (c)) (rn_move _ (Or.inl rfl) _ (he2.tmp 0 _ rfl)) (fun a3 he3 => ?_)
  clear he2
  cases hd1 : (ruOks f n)
  · refine wl_call he3 hm0 rfl rfl _ #[.slice (some ⟨b, p, none⟩) (n) (c)] (enter_call _ _ _ rfl 10 #[] #[] rfl #[.slice (some ⟨b, p, none⟩) (n) (c)] (map1 (he3.tmp 9 _ rfl)) #[.slice (some ⟨b, p, none⟩) (n) (c)] rfl (fun _ _ => by kernel_rfl)) (.bool false) (callsV (congrArg Value.bool (hd1)) (c_Oks f b p n c _ (hR.kb hm0.keep (by simp)) hn)) (fun a4 w1 he4 hm1 => ?_)
    clear he3 hm0
    refine wl_val he4 rfl rfl (.bool true) (rn_un _ _ _ rfl _ (.bool (!false)) _ (he4.tmp 10 _ rfl) rfl rfl) (fun a5 he5 => ?_)
    clear he4
    refine wl_val he5 rfl rfl (.bool true) (rn_move _ (Or.inl rfl) _ (he5.tmp 11 _ rfl)) (fun a6 he6 => ?_)
    clear he5
    refine wl_not he6 rfl (wanted_slot he6 3 false rfl 12 rfl true rfl false rfl) (fun a7 he7 => ?_)
    clear he6
    refine wl_not he7 rfl (wanted_slot he7 3 false rfl 12 rfl true rfl false rfl) (fun a8 he8 => ?_)
    clear he7
    refine wl_not he8 rfl (wanted_slot he8 3 false rfl 12 rfl true rfl false rfl) (fun a9 he9 => ?_)
    clear he8
    refine wl_val he9 rfl rfl (.bool true) (rn_pickT _ _ _ rfl (he9.tmp 12 _ rfl) _ rfl) (fun a10 he10 => ?_)
    clear he9
    refine wl_end ?_
    refine wp_condT (he := he10) rfl ?_
    refine wp_seqR ?_
    refine wl_val he10 rfl rfl (.int .i64 ((-1))) (rn_move _ (Or.inr rfl) _ rfl) (fun a11 he11 => ?_)
    clear he10
    refine wl_val he11 rfl rfl (.int .i64 (0)) (rn_move _ (Or.inr rfl) _ rfl) (fun a12 he12 => ?_)
    clear he11
    refine wl_end ?_
    refine wp_ret ?_
    refine ret_then ?_
    exact bodyPost_ret (results_tmp2 he12 _ _ Try.results13 _ _ rfl rfl) he12.defers ⟨(by first | rw [ofM_no (by assumption)] | rw [ofM_no2 (by omega)] | rw [ofM_yes hd1 hs12, ofR_at (i := i) (by omega) hrel1.2 (by assumption)] | rw [ofM_yes hd1 hs12, ofR_end fun j hj => hrel1.2 j (by omega)]), hm1.below⟩
  · refine wl_call he3 hm0 rfl rfl _ #[.slice (some ⟨b, p, none⟩) (n) (c)] (enter_call _ _ _ rfl 10 #[] #[] rfl #[.slice (some ⟨b, p, none⟩) (n) (c)] (map1 (he3.tmp 9 _ rfl)) #[.slice (some ⟨b, p, none⟩) (n) (c)] rfl (fun _ _ => by kernel_rfl)) (.bool true) (callsV (congrArg Value.bool (hd1)) (c_Oks f b p n c _ (hR.kb hm0.keep (by simp)) hn)) (fun a4 w1 he4 hm1 => ?_)
    clear he3 hm0
    refine wl_val he4 rfl rfl (.bool false) (rn_un _ _ _ rfl _ (.bool (!true)) _ (he4.tmp 10 _ rfl) rfl rfl) (fun a5 he5 => ?_)
    clear he4
    refine wl_val he5 rfl rfl (.bool false) (rn_move _ (Or.inl rfl) _ (he5.tmp 11 _ rfl)) (fun a6 he6 => ?_)
    clear he5
    refine wl_val he6 rfl (wanted_slot he6 3 false rfl 12 rfl false rfl true rfl) (.string (s)) (rn_move _ (Or.inl rfl) _ (he6.tmp 1 _ rfl)) (fun a7 he7 => ?_)
    clear he6
    refine wl_val he7 rfl (wanted_slot he7 3 false rfl 12 rfl false rfl true rfl) (.int .i64 ((((s).size : Nat) : Int))) (rn_builtin _ _ _ rfl #[.string (s)] (map1 (he7.tmp 13 _ rfl)) (.int .i64 ((((s).size : Nat) : Int))) (by kernel_rfl)) (fun a8 he8 => ?_)
    clear he7
    cases hd2 : (((((s).size : Nat) : Int) != 12))
    · have hd2p : (((s).size : Nat) : Int) = 12 := by simpa using hd2
      refine wl_val he8 rfl (wanted_slot he8 3 false rfl 12 rfl false rfl true rfl) (.bool false) (rn_bin _ _ _ _ _ rfl .i64 _ _ (he8.tmp 14 _ rfl) rfl (.bool (((((s).size : Nat) : Int) != 12))) _ rfl (congrArg Value.bool (hd2))) (fun a9 he9 => ?_)
      clear he8
      refine wl_val he9 rfl rfl (.bool false) (rn_pickF _ _ _ rfl (he9.tmp 12 _ rfl) _ (he9.tmp 15 _ rfl)) (fun a10 he10 => ?_)
      clear he9
      refine wl_end ?_
      refine wp_condF (he := he10) rfl ?_
      refine wp_skip ?_
      refine then_normal ?_
      refine wp_seq ?_
      refine wp_seqR ?_
      refine wl_val he10 rfl rfl (.slice (some ⟨b, p, none⟩) (n) (c)) (rn_move _ (Or.inl rfl) _ (he10.tmp 0 _ rfl)) (fun a11 he11 => ?_)
      clear he10
      refine wl_val he11 rfl rfl (.int .i64 (((n : Nat) : Int))) (rn_builtin _ _ _ rfl #[.slice (some ⟨b, p, none⟩) (n) (c)] (map1 (he11.tmp 17 _ rfl)) (.int .i64 (((n : Nat) : Int))) (by kernel_rfl)) (fun a12 he12 => ?_)
      clear he11
      refine wl_val he12 rfl rfl (.int .i64 (0)) (rn_move _ (Or.inl rfl) _ rfl) (fun a13 he13 => ?_)
      clear he12
      refine wl_end ?_
      refine wp_block ?_
      refine wp_loopN (fun mz az wz => ∃ (i : Nat), mz = n - (i) ∧ (i ≤ n ∧ ∀ j, j < i → holdsR (f j) s = false) ∧ EV az 33 [] [(0, .slice (some ⟨b, p, none⟩) (n) (c)), (1, .string (s)), (9, .slice (some ⟨b, p, none⟩) (n) (c)), (10, .bool true), (11, .bool false), (12, .bool false), (13, .string (s)), (14, .int .i64 ((((s).size : Nat) : Int))), (15, .bool false), (16, .bool false), (17, .slice (some ⟨b, p, none⟩) (n) (c)), (18, .int .i64 (((n : Nat) : Int))), (19, .int .i64 (((i : Nat) : Int)))] ∧ MM [] w wz []) ⟨_, 0, rfl, ⟨by omega, fun j hj => by omega⟩, he13.sub _ ⟨rfl, rfl, rfl, rfl, rfl, rfl, rfl, rfl, rfl, rfl, rfl, rfl, rfl, trivial⟩, hm1.sub _ trivial⟩ ?_
      rintro mz1 a14 w2 ⟨i, rfl, hrel1, he14, hm2⟩
      clear he13 hm1
      obtain ⟨hall, hn6⟩ := ruOks_all hd1
      have hs12 : s.size = 12 := by omega
      have hrel1a := hrel1.1
      refine wp_seqR ?_
      cases hd3 : (decide (((i : Nat) : Int) < ((n : Nat) : Int)))
      · have hd3p := of_decide_eq_false hd3
        refine wl_val he14 rfl rfl (.bool false) (rn_bin _ _ _ _ _ rfl .i64 _ _ (he14.tmp 19 _ rfl) (he14.tmp 18 _ rfl) (.bool (decide (((i : Nat) : Int) < ((n : Nat) : Int)))) _ rfl (congrArg Value.bool (hd3))) (fun a15 he15 => ?_)
        clear he14
        refine wl_end ?_
        refine wp_seq ?_
        refine wp_condF (he := he15) rfl ?_
        refine wp_exit ?_
        refine exit_then ?_
        refine exit_then ?_
        refine exit_here ?_
        refine then_normal ?_
        refine wp_seqR ?_
        refine wl_val he15 rfl rfl (.int .i64 (1)) (rn_move _ (Or.inr rfl) _ rfl) (fun a16 he16 => ?_)
        clear he15
        refine wl_val he16 rfl rfl (.int .i64 (0)) (rn_move _ (Or.inr rfl) _ rfl) (fun a17 he17 => ?_)
        clear he16
        refine wl_end ?_
        refine wp_ret ?_
        exact bodyPost_ret (results_tmp2 he17 _ _ Try.results13 _ _ rfl rfl) he17.defers ⟨(by first | rw [ofM_no (by assumption)] | rw [ofM_no2 (by omega)] | rw [ofM_yes hd1 hs12, ofR_at (i := i) (by omega) hrel1.2 (by assumption)] | rw [ofM_yes hd1 hs12, ofR_end fun j hj => hrel1.2 j (by omega)]), hm2.below⟩
      · have hd3p := of_decide_eq_true hd3
        refine wl_val he14 rfl rfl (.bool true) (rn_bin _ _ _ _ _ rfl .i64 _ _ (he14.tmp 19 _ rfl) (he14.tmp 18 _ rfl) (.bool (decide (((i : Nat) : Int) < ((n : Nat) : Int)))) _ rfl (congrArg Value.bool (hd3))) (fun a15 he15 => ?_)
        clear he14
        refine wl_end ?_
        refine wp_seq ?_
        refine wp_condT (he := he15) rfl ?_
        refine wp_skip ?_
        refine then_normal ?_
        refine wp_seq ?_
        refine wp_block ?_
        refine wp_seqR ?_
        refine wl_val he15 rfl rfl (.pointer (some ⟨b, p + i * 5, none⟩)) (rn_indexA _ _ _ rfl _ _ (.pointer (some ⟨b, p + i * 5, none⟩)) (he15.tmp 17 _ rfl) (he15.tmp 19 _ rfl) (ixS 39 5 (by kernel_rfl) (fun w => by kernel_rfl) (b) (p) (n) (c) (i) (by omega) _)) (fun a16 he16 => ?_)
        clear he15
        refine wl_val he16 rfl rfl (.agg (Ru.arr (f i))) (rn_rowA hm2 hR (by simp) (i) (by omega) _ _ rfl (he16.tmp 21 _ rfl) agg39 (by kernel_rfl)) (fun a17 he17 => ?_)
        clear he16
        refine wl_alloc he17 hm2 1 rfl rfl rfl _ rfl (.agg #[.int .i64 0, .int .i64 0, .int .i64 0, .int .i64 0, .int .i64 0]) (fun w => by kernel_rfl) (#[.int .i64 (0), .int .i64 (0), .int .i64 (0), .int .i64 (0), .int .i64 (0)]) rfl (fun a18 w3 b1 he18 hm3 => ?_)
        clear he17 hm2
        refine wl_store he18 hm3 1 rfl rfl rfl _ _ _ rfl (0) (he18.tmp 7 _ rfl) _ (he18.tmp 22 _ rfl) 5 agg39.size rfl (Ru.one _) (by decide) (Ru.arr (f i)) (by kernel_rfl) (fun w4 hm4 => ?_)
        clear hm3
        refine wl_end ?_
        refine wp_seqR ?_
        refine wl_val he18 rfl rfl (.agg (Ru.arr (f i))) (rn_loadA hm4 1 rfl _ _ rfl (0) (he18.tmp 7 _ rfl) 5 agg39 (Ru.arr (f i)) (by kernel_rfl) rfl) (fun a19 he19 => ?_)
        clear he18
        refine wl_callN he19 hm4 2 rfl rfl rfl _ #[.agg (Ru.arr (f i))] (enter_call _ _ _ rfl 28 #[] #[] rfl #[.agg (Ru.arr (f i))] (map1 (he19.tmp 23 _ rfl)) #[.agg (Ru.arr (f i))] rfl (fun _ _ => by kernel_rfl)) (c_rulingOf (f i) _) (fun x2 b2 a20 w5 hx2 he20 hm5 => ?_)
        clear he19 hm4
        refine wl_val he20 rfl rfl (.func (.func 43) #[] #[.pointer (some ⟨b2, 0, none⟩)]) (rn_move _ (Or.inr rfl) _ (he20.tmp 24 _ rfl)) (fun a21 he21 => ?_)
        clear he20
        refine wl_end ?_
        refine wp_seqR ?_
        refine wl_val he21 rfl rfl (.func (.func 43) #[] #[.pointer (some ⟨b2, 0, none⟩)]) (rn_move _ (Or.inl rfl) _ (he21.tmp 8 _ rfl)) (fun a22 he22 => ?_)
        clear he21
        refine wl_val he22 rfl rfl (.string (s)) (rn_move _ (Or.inl rfl) _ (he22.tmp 1 _ rfl)) (fun a23 he23 => ?_)
        clear he22
        cases hd4 : (holdsR (f i) s)
        · refine wl_call he23 hm5 rfl rfl _ #[.string (s), .pointer (some ⟨b2, 0, none⟩)] (enter_call _ _ _ rfl 43 #[] #[.pointer (some ⟨b2, 0, none⟩)] (he23.tmp 25 _ rfl) #[.string (s)] (map1 (he23.tmp 26 _ rfl)) #[.string (s), .pointer (some ⟨b2, 0, none⟩)] rfl (fun _ _ => by kernel_rfl)) (.bool false) (callsV (congrArg Value.bool (hd4)) (c_ruling (f i) b2 s _ (hm5.bx 2 _ _ _ _ rfl) (hall i (by omega)) hs12)) (fun a24 w6 he24 hm6 => ?_)
          clear he23 hm5
          refine wl_end ?_
          refine wp_condF (he := he24) rfl ?_
          refine wp_skip ?_
          refine in_normal ?_
          refine then_normal ?_
          refine wp_region_lit ?_
          refine wl_val he24 rfl rfl (.int .i64 (((i + 1 : Nat) : Int))) (rn_bin _ _ _ _ _ rfl .i64 _ _ (he24.tmp 19 _ rfl) rfl (.int .i64 (IntKind.wrap .i64 (((i : Nat) : Int) + 1))) _ rfl (addN (i := i) (c := 1) (by omega))) (fun a25 he25 => ?_)
          clear he24
          refine wl_val he25 rfl rfl (.int .i64 (((i + 1 : Nat) : Int))) (rn_move _ (Or.inl rfl) _ (he25.tmp 32 _ rfl)) (fun a26 he26 => ?_)
          clear he25
          refine wpList_nil ?_
          exact ⟨n - (i + 1), by omega, i + 1, rfl, ⟨by omega, fun j hj => by rcases Nat.lt_or_ge j i with hh | hh; exact hrel1.2 j hh; rw [show j = i by omega]; assumption⟩, he26.sub _ ⟨rfl, rfl, rfl, rfl, rfl, rfl, rfl, rfl, rfl, rfl, rfl, rfl, rfl, trivial⟩, hm6.sub _ trivial⟩
        · refine wl_call he23 hm5 rfl rfl _ #[.string (s), .pointer (some ⟨b2, 0, none⟩)] (enter_call _ _ _ rfl 43 #[] #[.pointer (some ⟨b2, 0, none⟩)] (he23.tmp 25 _ rfl) #[.string (s)] (map1 (he23.tmp 26 _ rfl)) #[.string (s), .pointer (some ⟨b2, 0, none⟩)] rfl (fun _ _ => by kernel_rfl)) (.bool true) (callsV (congrArg Value.bool (hd4)) (c_ruling (f i) b2 s _ (hm5.bx 2 _ _ _ _ rfl) (hall i (by omega)) hs12)) (fun a24 w6 he24 hm6 => ?_)
          clear he23 hm5
          refine wl_end ?_
          refine wp_condT (he := he24) rfl ?_
          refine wp_seq ?_
          refine wh_begin (by kernel_rfl) hm6 [(1, ⟨true, b1, 39, Ru.arr (f i)⟩), (2, ⟨true, b2, 39, Ru.arr (f i)⟩)] ⟨rfl, rfl, trivial⟩ (fun w7 hm7 => ?_)
          clear hm6
          refine wh_take (i := 0) (op := ?op1d1011_0) (fuel := 5) (hi := ?hi1d1011_0) (hs := ?hs1d1011_0) (hf := ?hf1d1011_0) (hr := ?hr1d1011_0) (hQ2 := ?hq1d1011_0) (he := he24) (hm := hm7) (hS := ⟨rfl, rfl, trivial⟩) (hd := ?hd1d1011_0) (hw := ?hw1d1011_0) (v := .pointer (some ⟨b1, 3, none⟩)) (hy := ?hy1d1011_0) (hQ := ?hp1d1011_0) (k := fun a25 he25 => ?k1d1011_0)
          case hi1d1011_0 => rw [List.getElem?_toArray]; rfl
          case hs1d1011_0 | hf1d1011_0 | hr1d1011_0 => kernel_rfl
          case hq1d1011_0 => exact fun _ _ _ _ h => h
          case hd1d1011_0 => rfl
          case hw1d1011_0 => exact rfl
          case hp1d1011_0 => exact fun _ _ _ h => h
          case hy1d1011_0 => exact fun wS hmS => rn_field _ _ _ rfl _ (.pointer (some ⟨b1, 3, none⟩)) (he24.tmp 7 _ rfl) (by kernel_rfl)
          clear he24
          refine wh_take (i := 1) (op := ?op1d1011_1) (fuel := 4) (hi := ?hi1d1011_1) (hs := ?hs1d1011_1) (hf := ?hf1d1011_1) (hr := ?hr1d1011_1) (hQ2 := ?hq1d1011_1) (he := he25) (hm := hm7) (hS := ⟨rfl, rfl, trivial⟩) (hd := ?hd1d1011_1) (hw := ?hw1d1011_1) (v := .int .i64 ((f i).ver)) (hy := ?hy1d1011_1) (hQ := ?hp1d1011_1) (k := fun a26 he26 => ?k1d1011_1)
          case hi1d1011_1 => rw [List.getElem?_toArray]; rfl
          case hs1d1011_1 | hf1d1011_1 | hr1d1011_1 => kernel_rfl
          case hq1d1011_1 => exact fun _ _ _ _ h => h
          case hd1d1011_1 => rfl
          case hw1d1011_1 => exact rfl
          case hp1d1011_1 => exact fun _ _ _ h => h
          case hy1d1011_1 => exact fun wS hmS => rn_load1 hmS 1 rfl _ _ rfl (3) (he25.tmp 28 _ rfl) one3 _ rfl
          clear he25
          refine wh_take (i := 2) (op := ?op1d1011_2) (fuel := 3) (hi := ?hi1d1011_2) (hs := ?hs1d1011_2) (hf := ?hf1d1011_2) (hr := ?hr1d1011_2) (hQ2 := ?hq1d1011_2) (he := he26) (hm := hm7) (hS := ⟨rfl, rfl, trivial⟩) (hd := ?hd1d1011_2) (hw := ?hw1d1011_2) (v := .pointer (some ⟨b1, 4, none⟩)) (hy := ?hy1d1011_2) (hQ := ?hp1d1011_2) (k := fun a27 he27 => ?k1d1011_2)
          case hi1d1011_2 => rw [List.getElem?_toArray]; rfl
          case hs1d1011_2 | hf1d1011_2 | hr1d1011_2 => kernel_rfl
          case hq1d1011_2 => exact fun _ _ _ _ h => h
          case hd1d1011_2 => rfl
          case hw1d1011_2 => exact rfl
          case hp1d1011_2 => exact fun _ _ _ h => h
          case hy1d1011_2 => exact fun wS hmS => rn_field _ _ _ rfl _ (.pointer (some ⟨b1, 4, none⟩)) (he26.tmp 7 _ rfl) (by kernel_rfl)
          clear he26
          refine wh_take (i := 3) (op := ?op1d1011_3) (fuel := 2) (hi := ?hi1d1011_3) (hs := ?hs1d1011_3) (hf := ?hf1d1011_3) (hr := ?hr1d1011_3) (hQ2 := ?hq1d1011_3) (he := he27) (hm := hm7) (hS := ⟨rfl, rfl, trivial⟩) (hd := ?hd1d1011_3) (hw := ?hw1d1011_3) (v := .int .i64 ((f i).key)) (hy := ?hy1d1011_3) (hQ := ?hp1d1011_3) (k := fun a28 he28 => ?k1d1011_3)
          case hi1d1011_3 => rw [List.getElem?_toArray]; rfl
          case hs1d1011_3 | hf1d1011_3 | hr1d1011_3 => kernel_rfl
          case hq1d1011_3 => exact fun _ _ _ _ h => h
          case hd1d1011_3 => rfl
          case hw1d1011_3 => exact rfl
          case hp1d1011_3 => exact fun _ _ _ h => h
          case hy1d1011_3 => exact fun wS hmS => rn_load1 hmS 1 rfl _ _ rfl (4) (he27.tmp 30 _ rfl) one3 _ rfl
          clear he27
          refine wh_take (i := 4) (op := ?op1d1011_4) (fuel := 1) (hi := ?hi1d1011_4) (hs := ?hs1d1011_4) (hf := ?hf1d1011_4) (hr := ?hr1d1011_4) (hQ2 := ?hq1d1011_4) (he := he28) (hm := hm7) (hS := ⟨rfl, rfl, trivial⟩) (hd := ?hd1d1011_4) (hw := ?hw1d1011_4) (v := .int .i64 ((f i).ver)) (hy := ?hy1d1011_4) (hQ := ?hp1d1011_4) (k := fun a29 he29 => ?k1d1011_4)
          case hi1d1011_4 => rw [List.getElem?_toArray]; rfl
          case hs1d1011_4 | hf1d1011_4 | hr1d1011_4 => kernel_rfl
          case hq1d1011_4 => exact fun _ _ _ _ h => h
          case hd1d1011_4 => rfl
          case hw1d1011_4 => exact rfl
          case hp1d1011_4 => exact fun _ _ _ h => h
          case hy1d1011_4 => exact fun wS hmS => rn_move _ (Or.inr rfl) _ (he28.tmp 29 _ rfl)
          clear he28
          refine wh_take (i := 5) (op := ?op1d1011_5) (fuel := 0) (hi := ?hi1d1011_5) (hs := ?hs1d1011_5) (hf := ?hf1d1011_5) (hr := ?hr1d1011_5) (hQ2 := ?hq1d1011_5) (he := he29) (hm := hm7) (hS := ⟨rfl, rfl, trivial⟩) (hd := ?hd1d1011_5) (hw := ?hw1d1011_5) (v := .int .i64 ((f i).key)) (hy := ?hy1d1011_5) (hQ := ?hp1d1011_5) (k := fun a30 he30 => ?k1d1011_5)
          case hi1d1011_5 => rw [List.getElem?_toArray]; rfl
          case hs1d1011_5 | hf1d1011_5 | hr1d1011_5 => kernel_rfl
          case hq1d1011_5 => exact fun _ _ _ _ h => h
          case hd1d1011_5 => rfl
          case hw1d1011_5 => exact rfl
          case hp1d1011_5 => exact fun _ _ _ h => h
          case hy1d1011_5 => exact fun wS hmS => rn_move _ (Or.inr rfl) _ (he29.tmp 31 _ rfl)
          clear he29
          refine wpAnyH_done (by kernel_rfl) ?_ _
          refine then_normal ?_
          refine wp_ret ?_
          refine ret_in ?_
          refine ret_then ?_
          refine ret_then ?_
          refine ret_in ?_
          refine ret_then ?_
          exact bodyPost_ret (results_tmp2 he30 _ _ Try.results13 _ _ rfl rfl) he30.defers ⟨(by first | rw [ofM_no (by assumption)] | rw [ofM_no2 (by omega)] | rw [ofM_yes hd1 hs12, ofR_at (i := i) (by omega) hrel1.2 (by assumption)] | rw [ofM_yes hd1 hs12, ofR_end fun j hj => hrel1.2 j (by omega)]), hm7.below⟩
    · have hd2p : (((s).size : Nat) : Int) ≠ 12 := by simpa using hd2
      refine wl_val he8 rfl (wanted_slot he8 3 false rfl 12 rfl false rfl true rfl) (.bool true) (rn_bin _ _ _ _ _ rfl .i64 _ _ (he8.tmp 14 _ rfl) rfl (.bool (((((s).size : Nat) : Int) != 12))) _ rfl (congrArg Value.bool (hd2))) (fun a9 he9 => ?_)
      clear he8
      refine wl_val he9 rfl rfl (.bool true) (rn_pickF _ _ _ rfl (he9.tmp 12 _ rfl) _ (he9.tmp 15 _ rfl)) (fun a10 he10 => ?_)
      clear he9
      refine wl_end ?_
      refine wp_condT (he := he10) rfl ?_
      refine wp_seqR ?_
      refine wl_val he10 rfl rfl (.int .i64 ((-1))) (rn_move _ (Or.inr rfl) _ rfl) (fun a11 he11 => ?_)
      clear he10
      refine wl_val he11 rfl rfl (.int .i64 (0)) (rn_move _ (Or.inr rfl) _ rfl) (fun a12 he12 => ?_)
      clear he11
      refine wl_end ?_
      refine wp_ret ?_
      refine ret_then ?_
      exact bodyPost_ret (results_tmp2 he12 _ _ Try.results13 _ _ rfl rfl) he12.defers ⟨(by first | rw [ofM_no (by assumption)] | rw [ofM_no2 (by omega)] | rw [ofM_yes hd1 hs12, ofR_at (i := i) (by omega) hrel1.2 (by assumption)] | rw [ofM_yes hd1 hs12, ofR_end fun j hj => hrel1.2 j (by omega)]), hm1.below⟩
theorem c_l9Of (f : Nat → Ru) (b p n c : Nat) (s : ByteArray) (w : World) (hR : RowAt w b p n 5 fun i => (f i).arr) (hn : n ≤ 1048576) (hall : ∀ i, i < n → ruOk (f i) = true) (hz : ((s.size : Nat) : Int) = 12) :
    Calls Try.prog 27 #[.slice (some ⟨b, p, none⟩) (n) (c), .string (s)] w fun e w' => e = .returned (.tuple #[.int .i64 (ofR f s n 0).1, .int .i64 (ofR f s n 0).2]) ∧ Below w.heap.size w w' := by
  refine calls_begin Try.func27 rfl 42 rfl (Nat.le_of_ble_eq_true rfl) [(0, .slice (some ⟨b, p, none⟩) (n) (c)), (1, .string (s))] ⟨rfl, rfl, trivial⟩ (fun a0 he0 hm0 => ?_)
  refine wp_seqR ?_
  refine wl_val he0 rfl rfl (.int .i64 (0)) (rn_move _ (Or.inr rfl) _ rfl) (fun a1 he1 => ?_)
  clear he0
  refine wl_val he1 rfl rfl (.int .i64 (0)) (rn_move _ (Or.inr rfl) _ rfl) (fun a2 he2 => ?_)
  clear he1
  refine wl_end ?_
  refine wp_seq ?_
  refine wp_seqR ?_
  refine wl_val he2 rfl rfl (.int .i64 (0)) (rn_move _ (Or.inr rfl) _ rfl) (fun a3 he3 => ?_)
  clear he2
  refine wl_end ?_
  refine wp_block ?_
  refine wp_loopN (fun mz az wz => ∃ (i : Nat), mz = n - (i) ∧ (i ≤ n ∧ ∀ j, j < i → holdsR (f j) s = false) ∧ EV az 42 [] [(0, .slice (some ⟨b, p, none⟩) (n) (c)), (1, .string (s)), (6, .int .i64 (((i : Nat) : Int)))] ∧ MM [] w wz []) ⟨_, 0, rfl, ⟨by omega, fun j hj => by omega⟩, he3.sub _ ⟨rfl, rfl, rfl, trivial⟩, hm0.sub _ trivial⟩ ?_
  rintro mz1 a4 w1 ⟨i, rfl, hrel1, he4, hm1⟩
  clear he3 hm0
  have hs12 : s.size = 12 := by omega
  have hrel1a := hrel1.1
  refine wp_seq ?_
  refine wp_seqR ?_
  refine wl_val he4 rfl rfl (.int .i64 (((i : Nat) : Int))) (rn_move _ (Or.inl rfl) _ (he4.tmp 6 _ rfl)) (fun a5 he5 => ?_)
  clear he4
  refine wl_val he5 rfl rfl (.slice (some ⟨b, p, none⟩) (n) (c)) (rn_move _ (Or.inl rfl) _ (he5.tmp 0 _ rfl)) (fun a6 he6 => ?_)
  clear he5
  refine wl_val he6 rfl rfl (.int .i64 (((n : Nat) : Int))) (rn_builtin _ _ _ rfl #[.slice (some ⟨b, p, none⟩) (n) (c)] (map1 (he6.tmp 8 _ rfl)) (.int .i64 (((n : Nat) : Int))) (by kernel_rfl)) (fun a7 he7 => ?_)
  clear he6
  cases hd1 : (decide (((i : Nat) : Int) < ((n : Nat) : Int)))
  · have hd1p := of_decide_eq_false hd1
    refine wl_val he7 rfl rfl (.bool false) (rn_bin _ _ _ _ _ rfl .i64 _ _ (he7.tmp 7 _ rfl) (he7.tmp 9 _ rfl) (.bool (decide (((i : Nat) : Int) < ((n : Nat) : Int)))) _ rfl (congrArg Value.bool (hd1))) (fun a8 he8 => ?_)
    clear he7
    refine wl_end ?_
    refine wp_condF (he := he8) rfl ?_
    refine wp_exit ?_
    refine exit_then ?_
    refine exit_then ?_
    refine exit_here ?_
    refine then_normal ?_
    refine wp_seqR ?_
    refine wl_val he8 rfl rfl (.int .i64 (1)) (rn_move _ (Or.inr rfl) _ rfl) (fun a9 he9 => ?_)
    clear he8
    refine wl_val he9 rfl rfl (.int .i64 (0)) (rn_move _ (Or.inr rfl) _ rfl) (fun a10 he10 => ?_)
    clear he9
    refine wl_end ?_
    refine wp_ret ?_
    exact bodyPost_ret (results_tmp2 he10 _ _ Try.results27 _ _ rfl rfl) he10.defers ⟨(by first | rw [ofR_at (i := i) (by omega) hrel1.2 (by assumption)] | rw [ofR_end fun j hj => hrel1.2 j (by omega)]), hm1.below⟩
  · have hd1p := of_decide_eq_true hd1
    refine wl_val he7 rfl rfl (.bool true) (rn_bin _ _ _ _ _ rfl .i64 _ _ (he7.tmp 7 _ rfl) (he7.tmp 9 _ rfl) (.bool (decide (((i : Nat) : Int) < ((n : Nat) : Int)))) _ rfl (congrArg Value.bool (hd1))) (fun a8 he8 => ?_)
    clear he7
    refine wl_end ?_
    refine wp_condT (he := he8) rfl ?_
    refine wp_skip ?_
    refine then_normal ?_
    refine wp_seq ?_
    refine wp_block ?_
    refine wp_seq ?_
    refine wh_begin (by kernel_rfl) hm1 [] trivial (fun w2 hm2 => ?_)
    clear hm1
    refine wh_take (i := 0) (op := ?op1d1_0) (fuel := 18) (hi := ?hi1d1_0) (hs := ?hs1d1_0) (hf := ?hf1d1_0) (hr := ?hr1d1_0) (hQ2 := ?hq1d1_0) (he := he8) (hm := hm2) (hS := trivial) (hd := ?hd1d1_0) (hw := ?hw1d1_0) (v := .slice (some ⟨b, p, none⟩) (n) (c)) (hy := ?hy1d1_0) (hQ := ?hp1d1_0) (k := fun a9 he9 => ?k1d1_0)
    case hi1d1_0 => rw [List.getElem?_toArray]; rfl
    case hs1d1_0 | hf1d1_0 | hr1d1_0 => kernel_rfl
    case hq1d1_0 => exact fun _ _ _ _ h => h
    case hd1d1_0 => rfl
    case hw1d1_0 => exact rfl
    case hp1d1_0 => exact fun _ _ _ h => h
    case hy1d1_0 => exact fun wS hmS => rn_move _ (Or.inl rfl) _ (he8.tmp 0 _ rfl)
    clear he8
    refine wh_take (i := 1) (op := ?op1d1_1) (fuel := 17) (hi := ?hi1d1_1) (hs := ?hs1d1_1) (hf := ?hf1d1_1) (hr := ?hr1d1_1) (hQ2 := ?hq1d1_1) (he := he9) (hm := hm2) (hS := trivial) (hd := ?hd1d1_1) (hw := ?hw1d1_1) (v := .int .i64 (((i : Nat) : Int))) (hy := ?hy1d1_1) (hQ := ?hp1d1_1) (k := fun a10 he10 => ?k1d1_1)
    case hi1d1_1 => rw [List.getElem?_toArray]; rfl
    case hs1d1_1 | hf1d1_1 | hr1d1_1 => kernel_rfl
    case hq1d1_1 => exact fun _ _ _ _ h => h
    case hd1d1_1 => rfl
    case hw1d1_1 => exact rfl
    case hp1d1_1 => exact fun _ _ _ h => h
    case hy1d1_1 => exact fun wS hmS => rn_move _ (Or.inl rfl) _ (he9.tmp 6 _ rfl)
    clear he9
    refine wh_take (i := 2) (op := ?op1d1_2) (fuel := 16) (hi := ?hi1d1_2) (hs := ?hs1d1_2) (hf := ?hf1d1_2) (hr := ?hr1d1_2) (hQ2 := ?hq1d1_2) (he := he10) (hm := hm2) (hS := trivial) (hd := ?hd1d1_2) (hw := ?hw1d1_2) (v := .pointer (some ⟨b, p + i * 5, none⟩)) (hy := ?hy1d1_2) (hQ := ?hp1d1_2) (k := fun a11 he11 => ?k1d1_2)
    case hi1d1_2 => rw [List.getElem?_toArray]; rfl
    case hs1d1_2 | hf1d1_2 | hr1d1_2 => kernel_rfl
    case hq1d1_2 => exact fun _ _ _ _ h => h
    case hd1d1_2 => rfl
    case hw1d1_2 => exact rfl
    case hp1d1_2 => exact fun _ _ _ h => h
    case hy1d1_2 => exact fun wS hmS => rn_indexA _ _ _ rfl _ _ (.pointer (some ⟨b, p + i * 5, none⟩)) (he10.tmp 13 _ rfl) (he10.tmp 14 _ rfl) (ixS 39 5 (by kernel_rfl) (fun w => by kernel_rfl) (b) (p) (n) (c) (i) (by omega) _)
    clear he10
    refine wh_take (i := 3) (op := ?op1d1_3) (fuel := 15) (hi := ?hi1d1_3) (hs := ?hs1d1_3) (hf := ?hf1d1_3) (hr := ?hr1d1_3) (hQ2 := ?hq1d1_3) (he := he11) (hm := hm2) (hS := trivial) (hd := ?hd1d1_3) (hw := ?hw1d1_3) (v := .pointer (some ⟨b, p + i * 5 + 1, none⟩)) (hy := ?hy1d1_3) (hQ := ?hp1d1_3) (k := fun a12 he12 => ?k1d1_3)
    case hi1d1_3 => rw [List.getElem?_toArray]; rfl
    case hs1d1_3 | hf1d1_3 | hr1d1_3 => kernel_rfl
    case hq1d1_3 => exact fun _ _ _ _ h => h
    case hd1d1_3 => rfl
    case hw1d1_3 => exact rfl
    case hp1d1_3 => exact fun _ _ _ h => h
    case hy1d1_3 => exact fun wS hmS => rn_field _ _ _ rfl _ (.pointer (some ⟨b, p + i * 5 + 1, none⟩)) (he11.tmp 15 _ rfl) (by kernel_rfl)
    clear he11
    refine wh_take (i := 4) (op := ?op1d1_4) (fuel := 14) (hi := ?hi1d1_4) (hs := ?hs1d1_4) (hf := ?hf1d1_4) (hr := ?hr1d1_4) (hQ2 := ?hq1d1_4) (he := he12) (hm := hm2) (hS := trivial) (hd := ?hd1d1_4) (hw := ?hw1d1_4) (v := .int .i64 ((f i).op)) (hy := ?hy1d1_4) (hQ := ?hp1d1_4) (k := fun a13 he13 => ?k1d1_4)
    case hi1d1_4 => rw [List.getElem?_toArray]; rfl
    case hs1d1_4 | hf1d1_4 | hr1d1_4 => kernel_rfl
    case hq1d1_4 => exact fun _ _ _ _ h => h
    case hd1d1_4 => rfl
    case hw1d1_4 => exact rfl
    case hp1d1_4 => exact fun _ _ _ h => h
    case hy1d1_4 => exact fun wS hmS => rn_row1 hmS hR (by simp) (i) (by omega) 1 (by omega) _ _ rfl (he12.tmp 16 _ rfl) one3 _ rfl
    clear he12
    refine wh_take (i := 5) (op := ?op1d1_5) (fuel := 13) (hi := ?hi1d1_5) (hs := ?hs1d1_5) (hf := ?hf1d1_5) (hr := ?hr1d1_5) (hQ2 := ?hq1d1_5) (he := he13) (hm := hm2) (hS := trivial) (hd := ?hd1d1_5) (hw := ?hw1d1_5) (v := .string (s)) (hy := ?hy1d1_5) (hQ := ?hp1d1_5) (k := fun a14 he14 => ?k1d1_5)
    case hi1d1_5 => rw [List.getElem?_toArray]; rfl
    case hs1d1_5 | hf1d1_5 | hr1d1_5 => kernel_rfl
    case hq1d1_5 => exact fun _ _ _ _ h => h
    case hd1d1_5 => rfl
    case hw1d1_5 => exact rfl
    case hp1d1_5 => exact fun _ _ _ h => h
    case hy1d1_5 => exact fun wS hmS => rn_move _ (Or.inl rfl) _ (he13.tmp 1 _ rfl)
    clear he13
    refine wh_take (i := 6) (op := ?op1d1_6) (fuel := 12) (hi := ?hi1d1_6) (hs := ?hs1d1_6) (hf := ?hf1d1_6) (hr := ?hr1d1_6) (hQ2 := ?hq1d1_6) (he := he14) (hm := hm2) (hS := trivial) (hd := ?hd1d1_6) (hw := ?hw1d1_6) (v := .slice (some ⟨b, p, none⟩) (n) (c)) (hy := ?hy1d1_6) (hQ := ?hp1d1_6) (k := fun a15 he15 => ?k1d1_6)
    case hi1d1_6 => rw [List.getElem?_toArray]; rfl
    case hs1d1_6 | hf1d1_6 | hr1d1_6 => kernel_rfl
    case hq1d1_6 => exact fun _ _ _ _ h => h
    case hd1d1_6 => rfl
    case hw1d1_6 => exact rfl
    case hp1d1_6 => exact fun _ _ _ h => h
    case hy1d1_6 => exact fun wS hmS => rn_move _ (Or.inl rfl) _ (he14.tmp 0 _ rfl)
    clear he14
    refine wh_take (i := 7) (op := ?op1d1_7) (fuel := 11) (hi := ?hi1d1_7) (hs := ?hs1d1_7) (hf := ?hf1d1_7) (hr := ?hr1d1_7) (hQ2 := ?hq1d1_7) (he := he15) (hm := hm2) (hS := trivial) (hd := ?hd1d1_7) (hw := ?hw1d1_7) (v := .int .i64 (((i : Nat) : Int))) (hy := ?hy1d1_7) (hQ := ?hp1d1_7) (k := fun a16 he16 => ?k1d1_7)
    case hi1d1_7 => rw [List.getElem?_toArray]; rfl
    case hs1d1_7 | hf1d1_7 | hr1d1_7 => kernel_rfl
    case hq1d1_7 => exact fun _ _ _ _ h => h
    case hd1d1_7 => rfl
    case hw1d1_7 => exact rfl
    case hp1d1_7 => exact fun _ _ _ h => h
    case hy1d1_7 => exact fun wS hmS => rn_move _ (Or.inl rfl) _ (he15.tmp 6 _ rfl)
    clear he15
    refine wh_take (i := 8) (op := ?op1d1_8) (fuel := 10) (hi := ?hi1d1_8) (hs := ?hs1d1_8) (hf := ?hf1d1_8) (hr := ?hr1d1_8) (hQ2 := ?hq1d1_8) (he := he16) (hm := hm2) (hS := trivial) (hd := ?hd1d1_8) (hw := ?hw1d1_8) (v := .pointer (some ⟨b, p + i * 5, none⟩)) (hy := ?hy1d1_8) (hQ := ?hp1d1_8) (k := fun a17 he17 => ?k1d1_8)
    case hi1d1_8 => rw [List.getElem?_toArray]; rfl
    case hs1d1_8 | hf1d1_8 | hr1d1_8 => kernel_rfl
    case hq1d1_8 => exact fun _ _ _ _ h => h
    case hd1d1_8 => rfl
    case hw1d1_8 => exact rfl
    case hp1d1_8 => exact fun _ _ _ h => h
    case hy1d1_8 => exact fun wS hmS => rn_indexA _ _ _ rfl _ _ (.pointer (some ⟨b, p + i * 5, none⟩)) (he16.tmp 19 _ rfl) (he16.tmp 20 _ rfl) (ixS 39 5 (by kernel_rfl) (fun w => by kernel_rfl) (b) (p) (n) (c) (i) (by omega) _)
    clear he16
    refine wh_take (i := 9) (op := ?op1d1_9) (fuel := 9) (hi := ?hi1d1_9) (hs := ?hs1d1_9) (hf := ?hf1d1_9) (hr := ?hr1d1_9) (hQ2 := ?hq1d1_9) (he := he17) (hm := hm2) (hS := trivial) (hd := ?hd1d1_9) (hw := ?hw1d1_9) (v := .pointer (some ⟨b, p + i * 5, none⟩)) (hy := ?hy1d1_9) (hQ := ?hp1d1_9) (k := fun a18 he18 => ?k1d1_9)
    case hi1d1_9 => rw [List.getElem?_toArray]; rfl
    case hs1d1_9 | hf1d1_9 | hr1d1_9 => kernel_rfl
    case hq1d1_9 => exact fun _ _ _ _ h => h
    case hd1d1_9 => rfl
    case hw1d1_9 => exact rfl
    case hp1d1_9 => exact fun _ _ _ h => h
    case hy1d1_9 => exact fun wS hmS => rn_field _ _ _ rfl _ (.pointer (some ⟨b, p + i * 5, none⟩)) (he17.tmp 21 _ rfl) (by kernel_rfl)
    clear he17
    refine wh_take (i := 10) (op := ?op1d1_10) (fuel := 8) (hi := ?hi1d1_10) (hs := ?hs1d1_10) (hf := ?hf1d1_10) (hr := ?hr1d1_10) (hQ2 := ?hq1d1_10) (he := he18) (hm := hm2) (hS := trivial) (hd := ?hd1d1_10) (hw := ?hw1d1_10) (v := .int .i64 ((((f i).at_.toNat : Nat) : Int))) (hy := ?hy1d1_10) (hQ := ?hp1d1_10) (k := fun a19 he19 => ?k1d1_10)
    case hi1d1_10 => rw [List.getElem?_toArray]; rfl
    case hs1d1_10 | hf1d1_10 | hr1d1_10 => kernel_rfl
    case hq1d1_10 => exact fun _ _ _ _ h => h
    case hd1d1_10 => rfl
    case hw1d1_10 => exact rfl
    case hp1d1_10 => exact fun _ _ _ h => h
    case hy1d1_10 => exact fun wS hmS => rn_row1 hmS hR (by simp) (i) (by omega) 0 (by omega) _ _ rfl (he18.tmp 22 _ rfl) one3 _ (Ru.g_at _ (hall i (by omega)))
    clear he18
    refine wh_take (i := 11) (op := ?op1d1_11) (fuel := 7) (hi := ?hi1d1_11) (hs := ?hs1d1_11) (hf := ?hf1d1_11) (hr := ?hr1d1_11) (hQ2 := ?hq1d1_11) (he := he19) (hm := hm2) (hS := trivial) (hd := ?hd1d1_11) (hw := ?hw1d1_11) (v := .int .u8 (((byteAt (s) ((f i).at_.toNat) : Nat) : Int))) (hy := ?hy1d1_11) (hQ := ?hp1d1_11) (k := fun a20 he20 => ?k1d1_11)
    case hi1d1_11 => rw [List.getElem?_toArray]; rfl
    case hs1d1_11 | hf1d1_11 | hr1d1_11 => kernel_rfl
    case hq1d1_11 => exact fun _ _ _ _ h => h
    case hd1d1_11 => rfl
    case hw1d1_11 => exact rfl
    case hp1d1_11 => exact fun _ _ _ h => h
    case hy1d1_11 => exact fun wS hmS => rn_sbyte _ (by kernel_rfl) _ _ rfl _ ((f i).at_.toNat) (he19.tmp 18 _ rfl) (he19.tmp 23 _ rfl) (at_lt (hall i (by omega)) hs12)
    clear he19
    refine wh_take (i := 12) (op := ?op1d1_12) (fuel := 6) (hi := ?hi1d1_12) (hs := ?hs1d1_12) (hf := ?hf1d1_12) (hr := ?hr1d1_12) (hQ2 := ?hq1d1_12) (he := he20) (hm := hm2) (hS := trivial) (hd := ?hd1d1_12) (hw := ?hw1d1_12) (v := .int .i64 (((byteAt (s) ((f i).at_.toNat) : Nat) : Int))) (hy := ?hy1d1_12) (hQ := ?hp1d1_12) (k := fun a21 he21 => ?k1d1_12)
    case hi1d1_12 => rw [List.getElem?_toArray]; rfl
    case hs1d1_12 | hf1d1_12 | hr1d1_12 => kernel_rfl
    case hq1d1_12 => exact fun _ _ _ _ h => h
    case hd1d1_12 => rfl
    case hw1d1_12 => exact rfl
    case hp1d1_12 => exact fun _ _ _ h => h
    case hy1d1_12 => exact fun wS hmS => rn_conv _ _ _ rfl _ (.int .i64 (IntKind.i64.wrap (((byteAt (s) ((f i).at_.toNat) : Nat) : Int)))) _ (he20.tmp 24 _ rfl) (by kernel_rfl) (cvn (n := byteAt (s) ((f i).at_.toNat)) (by first | omega | exact Nat.le_trans (Nat.le_of_lt (byteAt_lt _ _)) (by decide)))
    clear he20
    refine wh_take (i := 13) (op := ?op1d1_13) (fuel := 5) (hi := ?hi1d1_13) (hs := ?hs1d1_13) (hf := ?hf1d1_13) (hr := ?hr1d1_13) (hQ2 := ?hq1d1_13) (he := he21) (hm := hm2) (hS := trivial) (hd := ?hd1d1_13) (hw := ?hw1d1_13) (v := .slice (some ⟨b, p, none⟩) (n) (c)) (hy := ?hy1d1_13) (hQ := ?hp1d1_13) (k := fun a22 he22 => ?k1d1_13)
    case hi1d1_13 => rw [List.getElem?_toArray]; rfl
    case hs1d1_13 | hf1d1_13 | hr1d1_13 => kernel_rfl
    case hq1d1_13 => exact fun _ _ _ _ h => h
    case hd1d1_13 => rfl
    case hw1d1_13 => exact rfl
    case hp1d1_13 => exact fun _ _ _ h => h
    case hy1d1_13 => exact fun wS hmS => rn_move _ (Or.inl rfl) _ (he21.tmp 0 _ rfl)
    clear he21
    refine wh_take (i := 14) (op := ?op1d1_14) (fuel := 4) (hi := ?hi1d1_14) (hs := ?hs1d1_14) (hf := ?hf1d1_14) (hr := ?hr1d1_14) (hQ2 := ?hq1d1_14) (he := he22) (hm := hm2) (hS := trivial) (hd := ?hd1d1_14) (hw := ?hw1d1_14) (v := .int .i64 (((i : Nat) : Int))) (hy := ?hy1d1_14) (hQ := ?hp1d1_14) (k := fun a23 he23 => ?k1d1_14)
    case hi1d1_14 => rw [List.getElem?_toArray]; rfl
    case hs1d1_14 | hf1d1_14 | hr1d1_14 => kernel_rfl
    case hq1d1_14 => exact fun _ _ _ _ h => h
    case hd1d1_14 => rfl
    case hw1d1_14 => exact rfl
    case hp1d1_14 => exact fun _ _ _ h => h
    case hy1d1_14 => exact fun wS hmS => rn_move _ (Or.inl rfl) _ (he22.tmp 6 _ rfl)
    clear he22
    refine wh_take (i := 15) (op := ?op1d1_15) (fuel := 3) (hi := ?hi1d1_15) (hs := ?hs1d1_15) (hf := ?hf1d1_15) (hr := ?hr1d1_15) (hQ2 := ?hq1d1_15) (he := he23) (hm := hm2) (hS := trivial) (hd := ?hd1d1_15) (hw := ?hw1d1_15) (v := .pointer (some ⟨b, p + i * 5, none⟩)) (hy := ?hy1d1_15) (hQ := ?hp1d1_15) (k := fun a24 he24 => ?k1d1_15)
    case hi1d1_15 => rw [List.getElem?_toArray]; rfl
    case hs1d1_15 | hf1d1_15 | hr1d1_15 => kernel_rfl
    case hq1d1_15 => exact fun _ _ _ _ h => h
    case hd1d1_15 => rfl
    case hw1d1_15 => exact rfl
    case hp1d1_15 => exact fun _ _ _ h => h
    case hy1d1_15 => exact fun wS hmS => rn_indexA _ _ _ rfl _ _ (.pointer (some ⟨b, p + i * 5, none⟩)) (he23.tmp 26 _ rfl) (he23.tmp 27 _ rfl) (ixS 39 5 (by kernel_rfl) (fun w => by kernel_rfl) (b) (p) (n) (c) (i) (by omega) _)
    clear he23
    refine wh_take (i := 16) (op := ?op1d1_16) (fuel := 2) (hi := ?hi1d1_16) (hs := ?hs1d1_16) (hf := ?hf1d1_16) (hr := ?hr1d1_16) (hQ2 := ?hq1d1_16) (he := he24) (hm := hm2) (hS := trivial) (hd := ?hd1d1_16) (hw := ?hw1d1_16) (v := .pointer (some ⟨b, p + i * 5 + 2, none⟩)) (hy := ?hy1d1_16) (hQ := ?hp1d1_16) (k := fun a25 he25 => ?k1d1_16)
    case hi1d1_16 => rw [List.getElem?_toArray]; rfl
    case hs1d1_16 | hf1d1_16 | hr1d1_16 => kernel_rfl
    case hq1d1_16 => exact fun _ _ _ _ h => h
    case hd1d1_16 => rfl
    case hw1d1_16 => exact rfl
    case hp1d1_16 => exact fun _ _ _ h => h
    case hy1d1_16 => exact fun wS hmS => rn_field _ _ _ rfl _ (.pointer (some ⟨b, p + i * 5 + 2, none⟩)) (he24.tmp 28 _ rfl) (by kernel_rfl)
    clear he24
    refine wh_take (i := 17) (op := ?op1d1_17) (fuel := 1) (hi := ?hi1d1_17) (hs := ?hs1d1_17) (hf := ?hf1d1_17) (hr := ?hr1d1_17) (hQ2 := ?hq1d1_17) (he := he25) (hm := hm2) (hS := trivial) (hd := ?hd1d1_17) (hw := ?hw1d1_17) (v := .int .i64 ((f i).num)) (hy := ?hy1d1_17) (hQ := ?hp1d1_17) (k := fun a26 he26 => ?k1d1_17)
    case hi1d1_17 => rw [List.getElem?_toArray]; rfl
    case hs1d1_17 | hf1d1_17 | hr1d1_17 => kernel_rfl
    case hq1d1_17 => exact fun _ _ _ _ h => h
    case hd1d1_17 => rfl
    case hw1d1_17 => exact rfl
    case hp1d1_17 => exact fun _ _ _ h => h
    case hy1d1_17 => exact fun wS hmS => rn_row1 hmS hR (by simp) (i) (by omega) 2 (by omega) _ _ rfl (he25.tmp 29 _ rfl) one3 _ rfl
    clear he25
    cases hd2 : (holdsR (f i) s)
    · refine wh_call (i := 18) (op := ?op1d10_18) (fuel := 0) ?hr1d10_18 ?hi1d10_18 he26 hm2 trivial ?hd1d10_18 ?hw1d10_18 _ #[.int .i64 ((f i).op), .int .i64 (((byteAt (s) ((f i).at_.toNat) : Nat) : Int)), .int .i64 ((f i).num)] ?en1d10_18 (.bool false) (callsV (congrArg Value.bool (hd2)) (callsS (c_l2Holds _ _ _ _))) (fun a27 w3 he27 hm3 => ?k1d10_18)
      case hi1d10_18 => rw [List.getElem?_toArray]; rfl
      case hw1d10_18 => exact rfl
      case hr1d10_18 => kernel_rfl
      case hd1d10_18 => rfl
      case en1d10_18 => exact (enter_call _ _ _ rfl 42 #[] #[] rfl #[.int .i64 ((f i).op), .int .i64 (((byteAt (s) ((f i).at_.toNat) : Nat) : Int)), .int .i64 ((f i).num)] (map3 (he26.tmp 17 _ rfl) (he26.tmp 25 _ rfl) (he26.tmp 30 _ rfl)) #[.int .i64 ((f i).op), .int .i64 (((byteAt (s) ((f i).at_.toNat) : Nat) : Int)), .int .i64 ((f i).num)] rfl (fun _ _ => by kernel_rfl))
      clear he26 hm2
      refine wpAnyH_done (by kernel_rfl) ?_ _
      refine then_normal ?_
      refine wp_condF (he := he27) rfl ?_
      refine wp_skip ?_
      refine in_normal ?_
      refine then_normal ?_
      refine wp_region_lit ?_
      refine wl_val he27 rfl rfl (.int .i64 (((i : Nat) : Int))) (rn_move _ (Or.inl rfl) _ (he27.tmp 6 _ rfl)) (fun a28 he28 => ?_)
      clear he27
      refine wl_val he28 rfl rfl (.int .i64 (((i + 1 : Nat) : Int))) (rn_bin _ _ _ _ _ rfl .i64 _ _ (he28.tmp 11 _ rfl) rfl (.int .i64 (IntKind.wrap .i64 (((i : Nat) : Int) + 1))) _ rfl (addN (i := i) (c := 1) (by omega))) (fun a29 he29 => ?_)
      clear he28
      refine wl_val he29 rfl rfl (.int .i64 (((i + 1 : Nat) : Int))) (rn_move _ (Or.inr rfl) _ (he29.tmp 12 _ rfl)) (fun a30 he30 => ?_)
      clear he29
      refine wpList_nil ?_
      exact ⟨n - (i + 1), by omega, i + 1, rfl, ⟨by omega, fun j hj => by rcases Nat.lt_or_ge j i with hh | hh; exact hrel1.2 j hh; rw [show j = i by omega]; assumption⟩, he30.sub _ ⟨rfl, rfl, rfl, trivial⟩, hm3.sub _ trivial⟩
    · refine wh_call (i := 18) (op := ?op1d11_18) (fuel := 0) ?hr1d11_18 ?hi1d11_18 he26 hm2 trivial ?hd1d11_18 ?hw1d11_18 _ #[.int .i64 ((f i).op), .int .i64 (((byteAt (s) ((f i).at_.toNat) : Nat) : Int)), .int .i64 ((f i).num)] ?en1d11_18 (.bool true) (callsV (congrArg Value.bool (hd2)) (callsS (c_l2Holds _ _ _ _))) (fun a27 w3 he27 hm3 => ?k1d11_18)
      case hi1d11_18 => rw [List.getElem?_toArray]; rfl
      case hw1d11_18 => exact rfl
      case hr1d11_18 => kernel_rfl
      case hd1d11_18 => rfl
      case en1d11_18 => exact (enter_call _ _ _ rfl 42 #[] #[] rfl #[.int .i64 ((f i).op), .int .i64 (((byteAt (s) ((f i).at_.toNat) : Nat) : Int)), .int .i64 ((f i).num)] (map3 (he26.tmp 17 _ rfl) (he26.tmp 25 _ rfl) (he26.tmp 30 _ rfl)) #[.int .i64 ((f i).op), .int .i64 (((byteAt (s) ((f i).at_.toNat) : Nat) : Int)), .int .i64 ((f i).num)] rfl (fun _ _ => by kernel_rfl))
      clear he26 hm2
      refine wpAnyH_done (by kernel_rfl) ?_ _
      refine then_normal ?_
      refine wp_condT (he := he27) rfl ?_
      refine wp_seq ?_
      refine wh_begin (by kernel_rfl) hm3 [] trivial (fun w4 hm4 => ?_)
      clear hm3
      refine wh_take (i := 0) (op := ?op2d11_0) (fuel := 11) (hi := ?hi2d11_0) (hs := ?hs2d11_0) (hf := ?hf2d11_0) (hr := ?hr2d11_0) (hQ2 := ?hq2d11_0) (he := he27) (hm := hm4) (hS := trivial) (hd := ?hd2d11_0) (hw := ?hw2d11_0) (v := .slice (some ⟨b, p, none⟩) (n) (c)) (hy := ?hy2d11_0) (hQ := ?hp2d11_0) (k := fun a28 he28 => ?k2d11_0)
      case hi2d11_0 => rw [List.getElem?_toArray]; rfl
      case hs2d11_0 | hf2d11_0 | hr2d11_0 => kernel_rfl
      case hq2d11_0 => exact fun _ _ _ _ h => h
      case hd2d11_0 => rfl
      case hw2d11_0 => exact rfl
      case hp2d11_0 => exact fun _ _ _ h => h
      case hy2d11_0 => exact fun wS hmS => rn_move _ (Or.inl rfl) _ (he27.tmp 0 _ rfl)
      clear he27
      refine wh_take (i := 1) (op := ?op2d11_1) (fuel := 10) (hi := ?hi2d11_1) (hs := ?hs2d11_1) (hf := ?hf2d11_1) (hr := ?hr2d11_1) (hQ2 := ?hq2d11_1) (he := he28) (hm := hm4) (hS := trivial) (hd := ?hd2d11_1) (hw := ?hw2d11_1) (v := .int .i64 (((i : Nat) : Int))) (hy := ?hy2d11_1) (hQ := ?hp2d11_1) (k := fun a29 he29 => ?k2d11_1)
      case hi2d11_1 => rw [List.getElem?_toArray]; rfl
      case hs2d11_1 | hf2d11_1 | hr2d11_1 => kernel_rfl
      case hq2d11_1 => exact fun _ _ _ _ h => h
      case hd2d11_1 => rfl
      case hw2d11_1 => exact rfl
      case hp2d11_1 => exact fun _ _ _ h => h
      case hy2d11_1 => exact fun wS hmS => rn_move _ (Or.inl rfl) _ (he28.tmp 6 _ rfl)
      clear he28
      refine wh_take (i := 2) (op := ?op2d11_2) (fuel := 9) (hi := ?hi2d11_2) (hs := ?hs2d11_2) (hf := ?hf2d11_2) (hr := ?hr2d11_2) (hQ2 := ?hq2d11_2) (he := he29) (hm := hm4) (hS := trivial) (hd := ?hd2d11_2) (hw := ?hw2d11_2) (v := .pointer (some ⟨b, p + i * 5, none⟩)) (hy := ?hy2d11_2) (hQ := ?hp2d11_2) (k := fun a30 he30 => ?k2d11_2)
      case hi2d11_2 => rw [List.getElem?_toArray]; rfl
      case hs2d11_2 | hf2d11_2 | hr2d11_2 => kernel_rfl
      case hq2d11_2 => exact fun _ _ _ _ h => h
      case hd2d11_2 => rfl
      case hw2d11_2 => exact rfl
      case hp2d11_2 => exact fun _ _ _ h => h
      case hy2d11_2 => exact fun wS hmS => rn_indexA _ _ _ rfl _ _ (.pointer (some ⟨b, p + i * 5, none⟩)) (he29.tmp 32 _ rfl) (he29.tmp 33 _ rfl) (ixS 39 5 (by kernel_rfl) (fun w => by kernel_rfl) (b) (p) (n) (c) (i) (by omega) _)
      clear he29
      refine wh_take (i := 3) (op := ?op2d11_3) (fuel := 8) (hi := ?hi2d11_3) (hs := ?hs2d11_3) (hf := ?hf2d11_3) (hr := ?hr2d11_3) (hQ2 := ?hq2d11_3) (he := he30) (hm := hm4) (hS := trivial) (hd := ?hd2d11_3) (hw := ?hw2d11_3) (v := .pointer (some ⟨b, p + i * 5 + 3, none⟩)) (hy := ?hy2d11_3) (hQ := ?hp2d11_3) (k := fun a31 he31 => ?k2d11_3)
      case hi2d11_3 => rw [List.getElem?_toArray]; rfl
      case hs2d11_3 | hf2d11_3 | hr2d11_3 => kernel_rfl
      case hq2d11_3 => exact fun _ _ _ _ h => h
      case hd2d11_3 => rfl
      case hw2d11_3 => exact rfl
      case hp2d11_3 => exact fun _ _ _ h => h
      case hy2d11_3 => exact fun wS hmS => rn_field _ _ _ rfl _ (.pointer (some ⟨b, p + i * 5 + 3, none⟩)) (he30.tmp 34 _ rfl) (by kernel_rfl)
      clear he30
      refine wh_take (i := 4) (op := ?op2d11_4) (fuel := 7) (hi := ?hi2d11_4) (hs := ?hs2d11_4) (hf := ?hf2d11_4) (hr := ?hr2d11_4) (hQ2 := ?hq2d11_4) (he := he31) (hm := hm4) (hS := trivial) (hd := ?hd2d11_4) (hw := ?hw2d11_4) (v := .int .i64 ((f i).ver)) (hy := ?hy2d11_4) (hQ := ?hp2d11_4) (k := fun a32 he32 => ?k2d11_4)
      case hi2d11_4 => rw [List.getElem?_toArray]; rfl
      case hs2d11_4 | hf2d11_4 | hr2d11_4 => kernel_rfl
      case hq2d11_4 => exact fun _ _ _ _ h => h
      case hd2d11_4 => rfl
      case hw2d11_4 => exact rfl
      case hp2d11_4 => exact fun _ _ _ h => h
      case hy2d11_4 => exact fun wS hmS => rn_row1 hmS hR (by simp) (i) (by omega) 3 (by omega) _ _ rfl (he31.tmp 35 _ rfl) one3 _ rfl
      clear he31
      refine wh_take (i := 5) (op := ?op2d11_5) (fuel := 6) (hi := ?hi2d11_5) (hs := ?hs2d11_5) (hf := ?hf2d11_5) (hr := ?hr2d11_5) (hQ2 := ?hq2d11_5) (he := he32) (hm := hm4) (hS := trivial) (hd := ?hd2d11_5) (hw := ?hw2d11_5) (v := .slice (some ⟨b, p, none⟩) (n) (c)) (hy := ?hy2d11_5) (hQ := ?hp2d11_5) (k := fun a33 he33 => ?k2d11_5)
      case hi2d11_5 => rw [List.getElem?_toArray]; rfl
      case hs2d11_5 | hf2d11_5 | hr2d11_5 => kernel_rfl
      case hq2d11_5 => exact fun _ _ _ _ h => h
      case hd2d11_5 => rfl
      case hw2d11_5 => exact rfl
      case hp2d11_5 => exact fun _ _ _ h => h
      case hy2d11_5 => exact fun wS hmS => rn_move _ (Or.inl rfl) _ (he32.tmp 0 _ rfl)
      clear he32
      refine wh_take (i := 6) (op := ?op2d11_6) (fuel := 5) (hi := ?hi2d11_6) (hs := ?hs2d11_6) (hf := ?hf2d11_6) (hr := ?hr2d11_6) (hQ2 := ?hq2d11_6) (he := he33) (hm := hm4) (hS := trivial) (hd := ?hd2d11_6) (hw := ?hw2d11_6) (v := .int .i64 (((i : Nat) : Int))) (hy := ?hy2d11_6) (hQ := ?hp2d11_6) (k := fun a34 he34 => ?k2d11_6)
      case hi2d11_6 => rw [List.getElem?_toArray]; rfl
      case hs2d11_6 | hf2d11_6 | hr2d11_6 => kernel_rfl
      case hq2d11_6 => exact fun _ _ _ _ h => h
      case hd2d11_6 => rfl
      case hw2d11_6 => exact rfl
      case hp2d11_6 => exact fun _ _ _ h => h
      case hy2d11_6 => exact fun wS hmS => rn_move _ (Or.inl rfl) _ (he33.tmp 6 _ rfl)
      clear he33
      refine wh_take (i := 7) (op := ?op2d11_7) (fuel := 4) (hi := ?hi2d11_7) (hs := ?hs2d11_7) (hf := ?hf2d11_7) (hr := ?hr2d11_7) (hQ2 := ?hq2d11_7) (he := he34) (hm := hm4) (hS := trivial) (hd := ?hd2d11_7) (hw := ?hw2d11_7) (v := .pointer (some ⟨b, p + i * 5, none⟩)) (hy := ?hy2d11_7) (hQ := ?hp2d11_7) (k := fun a35 he35 => ?k2d11_7)
      case hi2d11_7 => rw [List.getElem?_toArray]; rfl
      case hs2d11_7 | hf2d11_7 | hr2d11_7 => kernel_rfl
      case hq2d11_7 => exact fun _ _ _ _ h => h
      case hd2d11_7 => rfl
      case hw2d11_7 => exact rfl
      case hp2d11_7 => exact fun _ _ _ h => h
      case hy2d11_7 => exact fun wS hmS => rn_indexA _ _ _ rfl _ _ (.pointer (some ⟨b, p + i * 5, none⟩)) (he34.tmp 37 _ rfl) (he34.tmp 38 _ rfl) (ixS 39 5 (by kernel_rfl) (fun w => by kernel_rfl) (b) (p) (n) (c) (i) (by omega) _)
      clear he34
      refine wh_take (i := 8) (op := ?op2d11_8) (fuel := 3) (hi := ?hi2d11_8) (hs := ?hs2d11_8) (hf := ?hf2d11_8) (hr := ?hr2d11_8) (hQ2 := ?hq2d11_8) (he := he35) (hm := hm4) (hS := trivial) (hd := ?hd2d11_8) (hw := ?hw2d11_8) (v := .pointer (some ⟨b, p + i * 5 + 4, none⟩)) (hy := ?hy2d11_8) (hQ := ?hp2d11_8) (k := fun a36 he36 => ?k2d11_8)
      case hi2d11_8 => rw [List.getElem?_toArray]; rfl
      case hs2d11_8 | hf2d11_8 | hr2d11_8 => kernel_rfl
      case hq2d11_8 => exact fun _ _ _ _ h => h
      case hd2d11_8 => rfl
      case hw2d11_8 => exact rfl
      case hp2d11_8 => exact fun _ _ _ h => h
      case hy2d11_8 => exact fun wS hmS => rn_field _ _ _ rfl _ (.pointer (some ⟨b, p + i * 5 + 4, none⟩)) (he35.tmp 39 _ rfl) (by kernel_rfl)
      clear he35
      refine wh_take (i := 9) (op := ?op2d11_9) (fuel := 2) (hi := ?hi2d11_9) (hs := ?hs2d11_9) (hf := ?hf2d11_9) (hr := ?hr2d11_9) (hQ2 := ?hq2d11_9) (he := he36) (hm := hm4) (hS := trivial) (hd := ?hd2d11_9) (hw := ?hw2d11_9) (v := .int .i64 ((f i).key)) (hy := ?hy2d11_9) (hQ := ?hp2d11_9) (k := fun a37 he37 => ?k2d11_9)
      case hi2d11_9 => rw [List.getElem?_toArray]; rfl
      case hs2d11_9 | hf2d11_9 | hr2d11_9 => kernel_rfl
      case hq2d11_9 => exact fun _ _ _ _ h => h
      case hd2d11_9 => rfl
      case hw2d11_9 => exact rfl
      case hp2d11_9 => exact fun _ _ _ h => h
      case hy2d11_9 => exact fun wS hmS => rn_row1 hmS hR (by simp) (i) (by omega) 4 (by omega) _ _ rfl (he36.tmp 40 _ rfl) one3 _ rfl
      clear he36
      refine wh_take (i := 10) (op := ?op2d11_10) (fuel := 1) (hi := ?hi2d11_10) (hs := ?hs2d11_10) (hf := ?hf2d11_10) (hr := ?hr2d11_10) (hQ2 := ?hq2d11_10) (he := he37) (hm := hm4) (hS := trivial) (hd := ?hd2d11_10) (hw := ?hw2d11_10) (v := .int .i64 ((f i).ver)) (hy := ?hy2d11_10) (hQ := ?hp2d11_10) (k := fun a38 he38 => ?k2d11_10)
      case hi2d11_10 => rw [List.getElem?_toArray]; rfl
      case hs2d11_10 | hf2d11_10 | hr2d11_10 => kernel_rfl
      case hq2d11_10 => exact fun _ _ _ _ h => h
      case hd2d11_10 => rfl
      case hw2d11_10 => exact rfl
      case hp2d11_10 => exact fun _ _ _ h => h
      case hy2d11_10 => exact fun wS hmS => rn_move _ (Or.inr rfl) _ (he37.tmp 36 _ rfl)
      clear he37
      refine wh_take (i := 11) (op := ?op2d11_11) (fuel := 0) (hi := ?hi2d11_11) (hs := ?hs2d11_11) (hf := ?hf2d11_11) (hr := ?hr2d11_11) (hQ2 := ?hq2d11_11) (he := he38) (hm := hm4) (hS := trivial) (hd := ?hd2d11_11) (hw := ?hw2d11_11) (v := .int .i64 ((f i).key)) (hy := ?hy2d11_11) (hQ := ?hp2d11_11) (k := fun a39 he39 => ?k2d11_11)
      case hi2d11_11 => rw [List.getElem?_toArray]; rfl
      case hs2d11_11 | hf2d11_11 | hr2d11_11 => kernel_rfl
      case hq2d11_11 => exact fun _ _ _ _ h => h
      case hd2d11_11 => rfl
      case hw2d11_11 => exact rfl
      case hp2d11_11 => exact fun _ _ _ h => h
      case hy2d11_11 => exact fun wS hmS => rn_move _ (Or.inr rfl) _ (he38.tmp 41 _ rfl)
      clear he38
      refine wpAnyH_done (by kernel_rfl) ?_ _
      refine then_normal ?_
      refine wp_ret ?_
      refine ret_in ?_
      refine ret_then ?_
      refine ret_then ?_
      refine ret_in ?_
      refine ret_then ?_
      exact bodyPost_ret (results_tmp2 he39 _ _ Try.results27 _ _ rfl rfl) he39.defers ⟨(by first | rw [ofR_at (i := i) (by omega) hrel1.2 (by assumption)] | rw [ofR_end fun j hj => hrel1.2 j (by omega)]), hm4.below⟩
theorem c_spOf (f : Nat → Ru) (b p n c : Nat) (s : ByteArray) (w : World) (hR : RowAt w b p n 5 fun i => (f i).arr) (hn : n ≤ 1048576) :
    Calls Try.prog 12 #[.slice (some ⟨b, p, none⟩) (n) (c), .string (s)] w fun e w' => e = .returned (.tuple #[.int .i64 (ofM f n s).1, .int .i64 (ofM f n s).2]) ∧ Below w.heap.size w w' := by
  refine calls_begin Try.func12 rfl 19 rfl (Nat.le_of_ble_eq_true rfl) [(0, .slice (some ⟨b, p, none⟩) (n) (c)), (1, .string (s))] ⟨rfl, rfl, trivial⟩ (fun a0 he0 hm0 => ?_)
  refine wp_seqR ?_
  refine wl_val he0 rfl rfl (.int .i64 (0)) (rn_move _ (Or.inr rfl) _ rfl) (fun a1 he1 => ?_)
  clear he0
  refine wl_val he1 rfl rfl (.int .i64 (0)) (rn_move _ (Or.inr rfl) _ rfl) (fun a2 he2 => ?_)
  clear he1
  refine wl_end ?_
  refine wp_seq ?_
  refine wp_seqR ?_
  refine wl_val he2 rfl rfl (.slice (some ⟨b, p, none⟩) (n) (c)) (rn_move _ (Or.inl rfl) _ (he2.tmp 0 _ rfl)) (fun a3 he3 => ?_)
  clear he2
  cases hd1 : (ruOks f n)
  · refine wl_call he3 hm0 rfl rfl _ #[.slice (some ⟨b, p, none⟩) (n) (c)] (enter_call _ _ _ rfl 23 #[] #[] rfl #[.slice (some ⟨b, p, none⟩) (n) (c)] (map1 (he3.tmp 6 _ rfl)) #[.slice (some ⟨b, p, none⟩) (n) (c)] rfl (fun _ _ => by kernel_rfl)) (.bool false) (callsV (congrArg Value.bool (hd1)) (c_oks f b p n c _ (hR.kb hm0.keep (by simp)) hn)) (fun a4 w1 he4 hm1 => ?_)
    clear he3 hm0
    refine wl_val he4 rfl rfl (.bool true) (rn_un _ _ _ rfl _ (.bool (!false)) _ (he4.tmp 7 _ rfl) rfl rfl) (fun a5 he5 => ?_)
    clear he4
    refine wl_val he5 rfl rfl (.bool true) (rn_move _ (Or.inl rfl) _ (he5.tmp 8 _ rfl)) (fun a6 he6 => ?_)
    clear he5
    refine wl_not he6 rfl (wanted_slot he6 3 false rfl 9 rfl true rfl false rfl) (fun a7 he7 => ?_)
    clear he6
    refine wl_not he7 rfl (wanted_slot he7 3 false rfl 9 rfl true rfl false rfl) (fun a8 he8 => ?_)
    clear he7
    refine wl_not he8 rfl (wanted_slot he8 3 false rfl 9 rfl true rfl false rfl) (fun a9 he9 => ?_)
    clear he8
    refine wl_val he9 rfl rfl (.bool true) (rn_pickT _ _ _ rfl (he9.tmp 9 _ rfl) _ rfl) (fun a10 he10 => ?_)
    clear he9
    refine wl_end ?_
    refine wp_condT (he := he10) rfl ?_
    refine wp_seqR ?_
    refine wl_val he10 rfl rfl (.int .i64 ((-1))) (rn_move _ (Or.inr rfl) _ rfl) (fun a11 he11 => ?_)
    clear he10
    refine wl_val he11 rfl rfl (.int .i64 (0)) (rn_move _ (Or.inr rfl) _ rfl) (fun a12 he12 => ?_)
    clear he11
    refine wl_end ?_
    refine wp_ret ?_
    refine ret_then ?_
    exact bodyPost_ret (results_tmp2 he12 _ _ Try.results12 _ _ rfl rfl) he12.defers ⟨(by first | rw [ofM_no (by assumption)] | rw [ofM_no2 (by omega)] | rw [ofM_yes hd1 (by omega)]), hm1.below⟩
  · refine wl_call he3 hm0 rfl rfl _ #[.slice (some ⟨b, p, none⟩) (n) (c)] (enter_call _ _ _ rfl 23 #[] #[] rfl #[.slice (some ⟨b, p, none⟩) (n) (c)] (map1 (he3.tmp 6 _ rfl)) #[.slice (some ⟨b, p, none⟩) (n) (c)] rfl (fun _ _ => by kernel_rfl)) (.bool true) (callsV (congrArg Value.bool (hd1)) (c_oks f b p n c _ (hR.kb hm0.keep (by simp)) hn)) (fun a4 w1 he4 hm1 => ?_)
    clear he3 hm0
    refine wl_val he4 rfl rfl (.bool false) (rn_un _ _ _ rfl _ (.bool (!true)) _ (he4.tmp 7 _ rfl) rfl rfl) (fun a5 he5 => ?_)
    clear he4
    refine wl_val he5 rfl rfl (.bool false) (rn_move _ (Or.inl rfl) _ (he5.tmp 8 _ rfl)) (fun a6 he6 => ?_)
    clear he5
    refine wl_val he6 rfl (wanted_slot he6 3 false rfl 9 rfl false rfl true rfl) (.string (s)) (rn_move _ (Or.inl rfl) _ (he6.tmp 1 _ rfl)) (fun a7 he7 => ?_)
    clear he6
    refine wl_val he7 rfl (wanted_slot he7 3 false rfl 9 rfl false rfl true rfl) (.int .i64 ((((s).size : Nat) : Int))) (rn_builtin _ _ _ rfl #[.string (s)] (map1 (he7.tmp 10 _ rfl)) (.int .i64 ((((s).size : Nat) : Int))) (by kernel_rfl)) (fun a8 he8 => ?_)
    clear he7
    cases hd2 : (((((s).size : Nat) : Int) != 12))
    · have hd2p : (((s).size : Nat) : Int) = 12 := by simpa using hd2
      refine wl_val he8 rfl (wanted_slot he8 3 false rfl 9 rfl false rfl true rfl) (.bool false) (rn_bin _ _ _ _ _ rfl .i64 _ _ (he8.tmp 11 _ rfl) rfl (.bool (((((s).size : Nat) : Int) != 12))) _ rfl (congrArg Value.bool (hd2))) (fun a9 he9 => ?_)
      clear he8
      refine wl_val he9 rfl rfl (.bool false) (rn_pickF _ _ _ rfl (he9.tmp 9 _ rfl) _ (he9.tmp 12 _ rfl)) (fun a10 he10 => ?_)
      clear he9
      refine wl_end ?_
      refine wp_condF (he := he10) rfl ?_
      refine wp_skip ?_
      refine then_normal ?_
      refine wp_seqR ?_
      refine wl_val he10 rfl rfl (.slice (some ⟨b, p, none⟩) (n) (c)) (rn_move _ (Or.inl rfl) _ (he10.tmp 0 _ rfl)) (fun a11 he11 => ?_)
      clear he10
      refine wl_val he11 rfl rfl (.string (s)) (rn_move _ (Or.inl rfl) _ (he11.tmp 1 _ rfl)) (fun a12 he12 => ?_)
      clear he11
      refine wl_call he12 hm1 rfl rfl _ #[.slice (some ⟨b, p, none⟩) (n) (c), .string (s)] (enter_call _ _ _ rfl 27 #[] #[] rfl #[.slice (some ⟨b, p, none⟩) (n) (c), .string (s)] (map2 (he12.tmp 14 _ rfl) (he12.tmp 15 _ rfl)) #[.slice (some ⟨b, p, none⟩) (n) (c), .string (s)] rfl (fun _ _ => by kernel_rfl)) (.tuple #[.int .i64 ((ofR f s n 0).1), .int .i64 ((ofR f s n 0).2)]) (c_l9Of f b p n c s _ (hR.kb hm1.keep (by simp)) hn (ruOks_all hd1).1 hd2p) (fun a13 w2 he13 hm2 => ?_)
      clear he12 hm1
      refine wl_val he13 rfl rfl (.int .i64 ((ofR f s n 0).1)) (rn_extract _ _ rfl _ (he13.tmp 16 _ rfl) _ rfl) (fun a14 he14 => ?_)
      clear he13
      refine wl_val he14 rfl rfl (.int .i64 ((ofR f s n 0).2)) (rn_extract _ _ rfl _ (he14.tmp 16 _ rfl) _ rfl) (fun a15 he15 => ?_)
      clear he14
      refine wl_val he15 rfl rfl (.int .i64 ((ofR f s n 0).1)) (rn_move _ (Or.inr rfl) _ (he15.tmp 17 _ rfl)) (fun a16 he16 => ?_)
      clear he15
      refine wl_val he16 rfl rfl (.int .i64 ((ofR f s n 0).2)) (rn_move _ (Or.inr rfl) _ (he16.tmp 18 _ rfl)) (fun a17 he17 => ?_)
      clear he16
      refine wl_end ?_
      refine wp_ret ?_
      exact bodyPost_ret (results_tmp2 he17 _ _ Try.results12 _ _ rfl rfl) he17.defers ⟨(by first | rw [ofM_no (by assumption)] | rw [ofM_no2 (by omega)] | rw [ofM_yes hd1 (by omega)]), hm2.below⟩
    · have hd2p : (((s).size : Nat) : Int) ≠ 12 := by simpa using hd2
      refine wl_val he8 rfl (wanted_slot he8 3 false rfl 9 rfl false rfl true rfl) (.bool true) (rn_bin _ _ _ _ _ rfl .i64 _ _ (he8.tmp 11 _ rfl) rfl (.bool (((((s).size : Nat) : Int) != 12))) _ rfl (congrArg Value.bool (hd2))) (fun a9 he9 => ?_)
      clear he8
      refine wl_val he9 rfl rfl (.bool true) (rn_pickF _ _ _ rfl (he9.tmp 9 _ rfl) _ (he9.tmp 12 _ rfl)) (fun a10 he10 => ?_)
      clear he9
      refine wl_end ?_
      refine wp_condT (he := he10) rfl ?_
      refine wp_seqR ?_
      refine wl_val he10 rfl rfl (.int .i64 ((-1))) (rn_move _ (Or.inr rfl) _ rfl) (fun a11 he11 => ?_)
      clear he10
      refine wl_val he11 rfl rfl (.int .i64 (0)) (rn_move _ (Or.inr rfl) _ rfl) (fun a12 he12 => ?_)
      clear he11
      refine wl_end ?_
      refine wp_ret ?_
      refine ret_then ?_
      exact bodyPost_ret (results_tmp2 he12 _ _ Try.results12 _ _ rfl rfl) he12.defers ⟨(by first | rw [ofM_no (by assumption)] | rw [ofM_no2 (by omega)] | rw [ofM_yes hd1 (by omega)]), hm1.below⟩
end Go.Proofs.Ytcopcajleonndaa
