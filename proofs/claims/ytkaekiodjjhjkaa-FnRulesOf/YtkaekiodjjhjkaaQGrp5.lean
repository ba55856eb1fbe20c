/- Opening an argument of type []Rule. -/
import Derived.Test.YtkaekiodjjhjkaaQGrp4
import Derived.WalkKit
import Derived.ProofKit
import Derived.OpenShut
import Derived.ShutString
import Derived.ChangeOld
import Derived.Below
import Derived.Deep.Slices
import Derived.Test.YtkaekiodjjhjkaaQDO
import Derived.Test.YtkaekiodjjhjkaaQDR0
namespace Go.Proofs.Ytkaekiodjjhjkaa.W
open Go.ChangeShapes Go.WideShapes Go.ChangeAt Go.RowKit Go.Deep
set_option linter.unusedVariables false
theorem own : ownKnob Try.prog.godebug = none := by kernel_rfl
theorem laidOut : laidOutB Try.prog = true := by kernel_rfl
end Go.Proofs.Ytkaekiodjjhjkaa.W
namespace Go.Proofs.Ytkaekiodjjhjkaa.W
open Go.RowKit
set_option linter.unusedVariables false
set_option linter.unusedSimpArgs false
/-- Whether a rule holds of bytes. -/
def holdsR (r : Ru) (s : ByteArray) : Bool := H.holdsB r.op ((byteAt s r.at_.toNat : Nat) : Int) r.num
theorem Ru.g_at (r : Ru) (h : ruOk r = true) : r.arr[0]? = some (.int .i64 ((r.at_.toNat : Nat) : Int)) := by
  have := (ruOk_is h).at0
  show some (Value.int .i64 r.at_) = _
  rw [Int.toNat_of_nonneg this]
theorem at_lt {r : Ru} (h : ruOk r = true) {s : ByteArray} (hs : s.size = 12) : r.at_.toNat < s.size := by
  have := (ruOk_is h).at0; have := (ruOk_is h).at1; omega
theorem c_HoldsR (r : Ru) (s : ByteArray) (w : World) (h : ruOk r = true) : Calls Try.prog 8 #[.int .i64 r.op, .int .i64 ((byteAt s r.at_.toNat : Nat) : Int), .int .i64 r.num] w fun e w' => e = .returned (.bool (holdsR r s)) ∧ Below w.heap.size w w' := by
  have hi := ruOk_is h
  have e : holdsR r s = H.holdsI r.op ((byteAt s r.at_.toNat : Nat) : Int) r.num := by
    have h1 := hi.op0; have h2 := hi.op1; have h3 := hi.num0; have h4 := hi.num1
    have h5 : byteAt s r.at_.toNat < 256 := byteAt_lt _ _
    have a1 : H.inB r.op 12 15 = true := by simp [H.inB]; omega
    have a2 : H.inB ((byteAt s r.at_.toNat : Nat) : Int) 0 4294967295 = true := by simp [H.inB]; omega
    have a3 : H.inB r.num 0 4294967295 = true := by simp [H.inB]; omega
    rw [H.holdsI, a1, a2, a3]; rfl
  rw [e]
  exact H.c_Holds _ _ _ w
/-- The verdict from the i-th rule on, and the key. -/
def ofR (f : Nat → Ru) (s : ByteArray) : Nat → Nat → Int × Int
  | 0, _ => (1, 0)
  | k + 1, i => if holdsR (f i) s then ((f i).ver, (f i).key) else ofR f s k (i + 1)
theorem ofR_run {f : Nat → Ru} {s : ByteArray} {n : Nat} : ∀ {i : Nat}, i ≤ n → (∀ j, j < i → holdsR (f j) s = false) → ofR f s n 0 = ofR f s (n - i) i
  | 0, _, _ => rfl
  | i + 1, hi, h => by
    rw [ofR_run (i := i) (by omega) (fun j hj => h j (by omega)), show n - i = (n - (i + 1)) + 1 by omega, ofR, h i (by omega)]; rfl
theorem ofR_at {f : Nat → Ru} {s : ByteArray} {n i : Nat} (hi : i < n) (h : ∀ j, j < i → holdsR (f j) s = false) (hh : holdsR (f i) s = true) : ofR f s n 0 = ((f i).ver, (f i).key) := by
  rw [ofR_run (Nat.le_of_lt hi) h, show n - i = (n - (i + 1)) + 1 by omega, ofR, hh]; rfl
theorem ofR_end {f : Nat → Ru} {s : ByteArray} {n : Nat} (h : ∀ j, j < n → holdsR (f j) s = false) : ofR f s n 0 = (1, 0) := by
  rw [ofR_run (Nat.le_refl n) h, Nat.sub_self]; rfl
def ofM (f : Nat → Ru) (n : Nat) (s : ByteArray) : Int × Int := if ruOks f n && decide (s.size = 12) then ofR f s n 0 else (-1, 0)
theorem ofM_no {f : Nat → Ru} {n : Nat} {s : ByteArray} (h : ruOks f n = false) : ofM f n s = (-1, 0) := by simp [ofM, h]
theorem ofM_no2 {f : Nat → Ru} {n : Nat} {s : ByteArray} (h : s.size ≠ 12) : ofM f n s = (-1, 0) := by simp [ofM, h]
theorem ofM_yes {f : Nat → Ru} {n : Nat} {s : ByteArray} (h : ruOks f n = true) (hs : s.size = 12) : ofM f n s = ofR f s n 0 := by simp [ofM, h, hs]
theorem c_rulingOf (r : Ru) (w : World)  :
    Calls Try.prog 17 #[.agg (Ru.arr (r))] w fun e w' => NewRow w (fun (_ : Unit) b => .func (.func 33) #[] #[.pointer (some ⟨b, 0, none⟩)]) 30 (fun _ => r.arr) (fun _ => True) e w' := by
  refine calls_begin Try.func17 rfl 4 rfl (Nat.le_of_ble_eq_true rfl) [(0, .agg (Ru.arr (r)))] ⟨rfl, trivial⟩ (fun a0 he0 hm0 => ?_)
  refine wp_seqR ?_
  refine wl_box he0 hm0 1 rfl rfl rfl _ _ rfl _ (he0.tmp 0 _ rfl) (Ru.arr (r)) rfl (fun a1 w1 b1 he1 hm1 => ?_)
  clear he0 hm0
  refine wl_val he1 rfl rfl (.nilFunc) (rn_move _ (Or.inr rfl) _ rfl) (fun a2 he2 => ?_)
  clear he1
  refine wl_end ?_
  refine wp_seqR ?_
  refine wl_val he2 rfl rfl (.func (.func 33) #[] #[.pointer (some ⟨b1, 0, none⟩)]) (rn_func _ _ _ rfl _ _ (map0 _) (map1 (he2.tmp 1 _ rfl))) (fun a3 he3 => ?_)
  clear he2
  refine wl_val he3 rfl rfl (.func (.func 33) #[] #[.pointer (some ⟨b1, 0, none⟩)]) (rn_move _ (Or.inr rfl) _ (he3.tmp 3 _ rfl)) (fun a4 he4 => ?_)
  clear he3
  refine wl_end ?_
  refine wp_ret ?_
  exact bodyPost_ret (results_tmp he4 _ Try.results17 _ rfl) he4.defers ⟨(), _, rfl, hm1.bx 1 _ _ _ _ rfl, trivial, by have := hm1.own 1 _ rfl rfl; simpa using this, hm1.below⟩
theorem c_ruling (r : Ru) (b : Nat) (s : ByteArray) (w : World) (hB : BX w b 30 r.arr) (hok : ruOk r = true) (hs12 : s.size = 12) :
    Calls Try.prog 33 #[.string (s), .pointer (some ⟨b, 0, none⟩)] w fun e w' => e = .returned (.bool (holdsR r s)) ∧ Below w.heap.size w w' := by
  refine calls_begin Try.func33 rfl 14 rfl (Nat.le_of_ble_eq_true rfl) [(0, .string (s)), (1, .pointer (some ⟨b, 0, none⟩))] ⟨rfl, rfl, trivial⟩ (fun a0 he0 hm0 => ?_)
  have hm1 := hm0.old 1 b 30 _ rfl hB (by simp)
  clear hm0
  refine wp_seqR ?_
  refine wl_val he0 rfl rfl (.bool false) (rn_move _ (Or.inr rfl) _ rfl) (fun a1 he1 => ?_)
  clear he0
  refine wl_end ?_
  refine wp_seq ?_
  refine wh_begin (by kernel_rfl) hm1 [(1, ⟨false, b, 30, Ru.arr (r)⟩)] ⟨rfl, trivial⟩ (fun w2 hm2 => ?_)
  clear hm1
  refine tk (fuel := 10) (i := 0) ?_ he1 hm2 ⟨rfl, trivial⟩ (.pointer (some ⟨b, 1, none⟩)) ?_ ?_ ?_ ?_ fun a2 he2 => ?_
  rotate_left
  rw [List.getElem?_toArray]; rfl
  exact ⟨by kernel_rfl, by kernel_rfl, by kernel_rfl⟩
  exact ⟨fun _ _ _ _ h => h, rfl, rfl⟩
  exact fun wS hmS => rn_field _ _ _ rfl _ (.pointer (some ⟨b, 1, none⟩)) (he1.tmp 1 _ rfl) (by kernel_rfl)
  clear he1
  refine tk (fuel := 9) (i := 1) ?_ he2 hm2 ⟨rfl, trivial⟩ (.int .i64 ((r).op)) ?_ ?_ ?_ ?_ fun a3 he3 => ?_
  rotate_left
  rw [List.getElem?_toArray]; rfl
  exact ⟨by kernel_rfl, by kernel_rfl, by kernel_rfl⟩
  exact ⟨fun _ _ _ _ h => h, rfl, rfl⟩
  exact fun wS hmS => rn_load1 hmS 1 rfl _ _ rfl (1) (he2.tmp 4 _ rfl) one3 _ rfl
  clear he2
  refine tk (fuel := 8) (i := 2) ?_ he3 hm2 ⟨rfl, trivial⟩ (.string (s)) ?_ ?_ ?_ ?_ fun a4 he4 => ?_
  rotate_left
  rw [List.getElem?_toArray]; rfl
  exact ⟨by kernel_rfl, by kernel_rfl, by kernel_rfl⟩
  exact ⟨fun _ _ _ _ h => h, rfl, rfl⟩
  exact fun wS hmS => rn_move _ (Or.inl rfl) _ (he3.tmp 0 _ rfl)
  clear he3
  refine tk (fuel := 7) (i := 3) ?_ he4 hm2 ⟨rfl, trivial⟩ (.pointer (some ⟨b, 0, none⟩)) ?_ ?_ ?_ ?_ fun a5 he5 => ?_
  rotate_left
  rw [List.getElem?_toArray]; rfl
  exact ⟨by kernel_rfl, by kernel_rfl, by kernel_rfl⟩
  exact ⟨fun _ _ _ _ h => h, rfl, rfl⟩
  exact fun wS hmS => rn_field _ _ _ rfl _ (.pointer (some ⟨b, 0, none⟩)) (he4.tmp 1 _ rfl) (by kernel_rfl)
  clear he4
  refine tk (fuel := 6) (i := 4) ?_ he5 hm2 ⟨rfl, trivial⟩ (.int .i64 ((((r).at_.toNat : Nat) : Int))) ?_ ?_ ?_ ?_ fun a6 he6 => ?_
  rotate_left
  rw [List.getElem?_toArray]; rfl
  exact ⟨by kernel_rfl, by kernel_rfl, by kernel_rfl⟩
  exact ⟨fun _ _ _ _ h => h, rfl, rfl⟩
  exact fun wS hmS => rn_load1 hmS 1 rfl _ _ rfl (0) (he5.tmp 7 _ rfl) one3 _ (Ru.g_at _ hok)
  clear he5
  refine tk (fuel := 5) (i := 5) ?_ he6 hm2 ⟨rfl, trivial⟩ (.int .u8 (((byteAt (s) ((r).at_.toNat) : Nat) : Int))) ?_ ?_ ?_ ?_ fun a7 he7 => ?_
  rotate_left
  rw [List.getElem?_toArray]; rfl
  exact ⟨by kernel_rfl, by kernel_rfl, by kernel_rfl⟩
  exact ⟨fun _ _ _ _ h => h, rfl, rfl⟩
  exact fun wS hmS => rn_sbyte _ (by kernel_rfl) _ _ rfl _ ((r).at_.toNat) (he6.tmp 6 _ rfl) (he6.tmp 8 _ rfl) (at_lt hok hs12)
  clear he6
  refine tk (fuel := 4) (i := 6) ?_ he7 hm2 ⟨rfl, trivial⟩ (.int .i64 (((byteAt (s) ((r).at_.toNat) : Nat) : Int))) ?_ ?_ ?_ ?_ fun a8 he8 => ?_
  rotate_left
  rw [List.getElem?_toArray]; rfl
  exact ⟨by kernel_rfl, by kernel_rfl, by kernel_rfl⟩
  exact ⟨fun _ _ _ _ h => h, rfl, rfl⟩
  exact fun wS hmS => rn_conv _ _ _ rfl _ (.int .i64 (IntKind.i64.wrap (((byteAt (s) ((r).at_.toNat) : Nat) : Int)))) _ (he7.tmp 9 _ rfl) (by kernel_rfl) (cvn (n := byteAt (s) ((r).at_.toNat)) (by first | omega | exact Nat.le_trans (Nat.le_of_lt (byteAt_lt _ _)) (by decide)))
  clear he7
  refine tk (fuel := 3) (i := 7) ?_ he8 hm2 ⟨rfl, trivial⟩ (.pointer (some ⟨b, 2, none⟩)) ?_ ?_ ?_ ?_ fun a9 he9 => ?_
  rotate_left
  rw [List.getElem?_toArray]; rfl
  exact ⟨by kernel_rfl, by kernel_rfl, by kernel_rfl⟩
  exact ⟨fun _ _ _ _ h => h, rfl, rfl⟩
  exact fun wS hmS => rn_field _ _ _ rfl _ (.pointer (some ⟨b, 2, none⟩)) (he8.tmp 1 _ rfl) (by kernel_rfl)
  clear he8
  refine tk (fuel := 2) (i := 8) ?_ he9 hm2 ⟨rfl, trivial⟩ (.int .i64 ((r).num)) ?_ ?_ ?_ ?_ fun a10 he10 => ?_
  rotate_left
  rw [List.getElem?_toArray]; rfl
  exact ⟨by kernel_rfl, by kernel_rfl, by kernel_rfl⟩
  exact ⟨fun _ _ _ _ h => h, rfl, rfl⟩
  exact fun wS hmS => rn_load1 hmS 1 rfl _ _ rfl (2) (he9.tmp 11 _ rfl) one3 _ rfl
  clear he9
  cases hd1 : (holdsR (r) s)
  ·
   refine wh_call (i := 9) (op := ?op1d0_9) (fuel := 1) ?hr1d0_9 ?hi1d0_9 he10 hm2 ⟨rfl, trivial⟩ ?hd1d0_9 ?hw1d0_9 _ #[.int .i64 ((r).op), .int .i64 (((byteAt (s) ((r).at_.toNat) : Nat) : Int)), .int .i64 ((r).num)] ?en1d0_9 (.bool false) (callsV (congrArg Value.bool (hd1)) (c_HoldsR _ s _ hok)) (fun a11 w3 he11 hm3 => ?k1d0_9)
   case hi1d0_9 => rw [List.getElem?_toArray]; rfl
   case hw1d0_9 => exact rfl
   case hr1d0_9 => kernel_rfl
   case hd1d0_9 => rfl
   case en1d0_9 => exact (enter_call _ _ _ rfl 8 #[] #[] rfl #[.int .i64 ((r).op), .int .i64 (((byteAt (s) ((r).at_.toNat) : Nat) : Int)), .int .i64 ((r).num)] (map3 (he10.tmp 5 _ rfl) (he10.tmp 10 _ rfl) (he10.tmp 12 _ rfl)) #[.int .i64 ((r).op), .int .i64 (((byteAt (s) ((r).at_.toNat) : Nat) : Int)), .int .i64 ((r).num)] rfl (fun _ _ => by kernel_rfl))
   clear he10 hm2
   refine tk (fuel := 0) (i := 10) ?_ he11 hm3 ⟨rfl, trivial⟩ (.bool false) ?_ ?_ ?_ ?_ fun a12 he12 => ?_
   rotate_left
   rw [List.getElem?_toArray]; rfl
   exact ⟨by kernel_rfl, by kernel_rfl, by kernel_rfl⟩
   exact ⟨fun _ _ _ _ h => h, rfl, rfl⟩
   exact fun wS hmS => rn_move _ (Or.inr rfl) _ (he11.tmp 13 _ rfl)
   clear he11
   refine wpAnyH_done (by kernel_rfl) ?_ _
   refine then_normal ?_
   refine wp_ret ?_
   exact bodyPost_ret (results_tmp he12 _ Try.results33 _ rfl) he12.defers ⟨(by simp only [hd1]), hm3.below⟩
  ·
   refine wh_call (i := 9) (op := ?op1d1_9) (fuel := 1) ?hr1d1_9 ?hi1d1_9 he10 hm2 ⟨rfl, trivial⟩ ?hd1d1_9 ?hw1d1_9 _ #[.int .i64 ((r).op), .int .i64 (((byteAt (s) ((r).at_.toNat) : Nat) : Int)), .int .i64 ((r).num)] ?en1d1_9 (.bool true) (callsV (congrArg Value.bool (hd1)) (c_HoldsR _ s _ hok)) (fun a11 w3 he11 hm3 => ?k1d1_9)
   case hi1d1_9 => rw [List.getElem?_toArray]; rfl
   case hw1d1_9 => exact rfl
   case hr1d1_9 => kernel_rfl
   case hd1d1_9 => rfl
   case en1d1_9 => exact (enter_call _ _ _ rfl 8 #[] #[] rfl #[.int .i64 ((r).op), .int .i64 (((byteAt (s) ((r).at_.toNat) : Nat) : Int)), .int .i64 ((r).num)] (map3 (he10.tmp 5 _ rfl) (he10.tmp 10 _ rfl) (he10.tmp 12 _ rfl)) #[.int .i64 ((r).op), .int .i64 (((byteAt (s) ((r).at_.toNat) : Nat) : Int)), .int .i64 ((r).num)] rfl (fun _ _ => by kernel_rfl))
   clear he10 hm2
   refine tk (fuel := 0) (i := 10) ?_ he11 hm3 ⟨rfl, trivial⟩ (.bool true) ?_ ?_ ?_ ?_ fun a12 he12 => ?_
   rotate_left
   rw [List.getElem?_toArray]; rfl
   exact ⟨by kernel_rfl, by kernel_rfl, by kernel_rfl⟩
   exact ⟨fun _ _ _ _ h => h, rfl, rfl⟩
   exact fun wS hmS => rn_move _ (Or.inr rfl) _ (he11.tmp 13 _ rfl)
   clear he11
   refine wpAnyH_done (by kernel_rfl) ?_ _
   refine then_normal ?_
   refine wp_ret ?_
   exact bodyPost_ret (results_tmp he12 _ Try.results33 _ rfl) he12.defers ⟨(by simp only [hd1]), hm3.below⟩
theorem c_Of (f : Nat → Ru) (b p n c : Nat) (s : ByteArray) (w : World) (hR : RowAt w b p n 5 fun i => (f i).arr) (hn : n ≤ 1048576) :
    Calls Try.prog 6 #[.slice (some ⟨b, p, none⟩) (n) (c), .string (s)] w fun e w' => e = .returned (.tuple #[.int .i64 (ofM f n s).1, .int .i64 (ofM f n s).2]) ∧ Below w.heap.size w w' := by
  refine calls_begin Try.func6 rfl 33 rfl (Nat.le_of_ble_eq_true rfl) [(0, .slice (some ⟨b, p, none⟩) (n) (c)), (1, .string (s))] ⟨rfl, rfl, trivial⟩ (fun a0 he0 hm0 => ?_)
  refine wp_seqR ?_
  refine wl_val he0 rfl rfl (.int .i64 (0)) (rn_move _ (Or.inr rfl) _ rfl) (fun a1 he1 => ?_)
  clear he0
  refine wl_val he1 rfl rfl (.int .i64 (0)) (rn_move _ (Or.inr rfl) _ rfl) (fun a2 he2 => ?_)
  clear he1
  refine wl_end ?_
  refine wp_seq ?_
  refine wp_seqR ?_
  refine wl_val he2 rfl rfl (.slice (some ⟨b, p, none⟩) (n) (c)) (rn_move _ (Or.inl rfl) _ (he2.tmp 0 _ rfl)) (fun a3 he3 => ?_)
  clear he2
  cases hd1 : (ruOks f n)
  ·
   refine wl_call he3 hm0 rfl rfl _ #[.slice (some ⟨b, p, none⟩) (n) (c)] (enter_call _ _ _ rfl 13 #[] #[] rfl #[.slice (some ⟨b, p, none⟩) (n) (c)] (map1 (he3.tmp 9 _ rfl)) #[.slice (some ⟨b, p, none⟩) (n) (c)] rfl (fun _ _ => by kernel_rfl)) (.bool false) (callsV (congrArg Value.bool (hd1)) (c_Oks f b p n c _ (hR.kb hm0.keep (by simp)) hn)) (fun a4 w1 he4 hm1 => ?_)
   clear he3 hm0
   refine wl_val he4 rfl rfl (.bool true) (rn_un _ _ _ rfl _ (.bool (!false)) _ (he4.tmp 10 _ rfl) rfl rfl) (fun a5 he5 => ?_)
   clear he4
   refine wl_val he5 rfl rfl (.bool true) (rn_move _ (Or.inl rfl) _ (he5.tmp 11 _ rfl)) (fun a6 he6 => ?_)
   clear he5
   refine wl_not he6 rfl (wanted_slot he6 3 false rfl 12 rfl true rfl false rfl) (fun a7 he7 => ?_)
   clear he6
   refine wl_not he7 rfl (wanted_slot he7 3 false rfl 12 rfl true rfl false rfl) (fun a8 he8 => ?_)
   clear he7
   refine wl_not he8 rfl (wanted_slot he8 3 false rfl 12 rfl true rfl false rfl) (fun a9 he9 => ?_)
   clear he8
   refine wl_val he9 rfl rfl (.bool true) (rn_pickT _ _ _ rfl (he9.tmp 12 _ rfl) _ rfl) (fun a10 he10 => ?_)
   clear he9
   refine wl_end ?_
   refine wp_condT (he := he10) rfl ?_
   refine wp_seqR ?_
   refine wl_val he10 rfl rfl (.int .i64 ((-1))) (rn_move _ (Or.inr rfl) _ rfl) (fun a11 he11 => ?_)
   clear he10
   refine wl_val he11 rfl rfl (.int .i64 (0)) (rn_move _ (Or.inr rfl) _ rfl) (fun a12 he12 => ?_)
   clear he11
   refine wl_end ?_
   refine wp_ret ?_
   refine ret_then ?_
   exact bodyPost_ret (results_tmp2 he12 _ _ Try.results6 _ _ rfl rfl) he12.defers ⟨(by first | rw [ofM_no (by assumption)] | rw [ofM_no2 (by omega)] | rw [ofM_yes hd1 hs12, ofR_at (i := i) (by omega) hrel1.2 (by assumption)] | rw [ofM_yes hd1 hs12, ofR_end fun j hj => hrel1.2 j (by omega)]), hm1.below⟩
  ·
   refine wl_call he3 hm0 rfl rfl _ #[.slice (some ⟨b, p, none⟩) (n) (c)] (enter_call _ _ _ rfl 13 #[] #[] rfl #[.slice (some ⟨b, p, none⟩) (n) (c)] (map1 (he3.tmp 9 _ rfl)) #[.slice (some ⟨b, p, none⟩) (n) (c)] rfl (fun _ _ => by kernel_rfl)) (.bool true) (callsV (congrArg Value.bool (hd1)) (c_Oks f b p n c _ (hR.kb hm0.keep (by simp)) hn)) (fun a4 w1 he4 hm1 => ?_)
   clear he3 hm0
   refine wl_val he4 rfl rfl (.bool false) (rn_un _ _ _ rfl _ (.bool (!true)) _ (he4.tmp 10 _ rfl) rfl rfl) (fun a5 he5 => ?_)
   clear he4
   refine wl_val he5 rfl rfl (.bool false) (rn_move _ (Or.inl rfl) _ (he5.tmp 11 _ rfl)) (fun a6 he6 => ?_)
   clear he5
   refine wl_val he6 rfl (wanted_slot he6 3 false rfl 12 rfl false rfl true rfl) (.string (s)) (rn_move _ (Or.inl rfl) _ (he6.tmp 1 _ rfl)) (fun a7 he7 => ?_)
   clear he6
   refine wl_val he7 rfl (wanted_slot he7 3 false rfl 12 rfl false rfl true rfl) (.int .i64 ((((s).size : Nat) : Int))) (rn_builtin _ _ _ rfl #[.string (s)] (map1 (he7.tmp 13 _ rfl)) (.int .i64 ((((s).size : Nat) : Int))) (by kernel_rfl)) (fun a8 he8 => ?_)
   clear he7
   cases hd2 : (((((s).size : Nat) : Int) != 12))
   ·
    have hd2p : (((s).size : Nat) : Int) = 12 := by simpa using hd2
    refine wl_val he8 rfl (wanted_slot he8 3 false rfl 12 rfl false rfl true rfl) (.bool false) (rn_bin _ _ _ _ _ rfl .i64 _ _ (he8.tmp 14 _ rfl) rfl (.bool (((((s).size : Nat) : Int) != 12))) _ rfl (congrArg Value.bool (hd2))) (fun a9 he9 => ?_)
    clear he8
    refine wl_val he9 rfl rfl (.bool false) (rn_pickF _ _ _ rfl (he9.tmp 12 _ rfl) _ (he9.tmp 15 _ rfl)) (fun a10 he10 => ?_)
    clear he9
    refine wl_end ?_
    refine wp_condF (he := he10) rfl ?_
    refine wp_skip ?_
    refine then_normal ?_
    refine wp_seq ?_
    refine wp_seqR ?_
    refine wl_val he10 rfl rfl (.slice (some ⟨b, p, none⟩) (n) (c)) (rn_move _ (Or.inl rfl) _ (he10.tmp 0 _ rfl)) (fun a11 he11 => ?_)
    clear he10
    refine wl_val he11 rfl rfl (.int .i64 (((n : Nat) : Int))) (rn_builtin _ _ _ rfl #[.slice (some ⟨b, p, none⟩) (n) (c)] (map1 (he11.tmp 17 _ rfl)) (.int .i64 (((n : Nat) : Int))) (by kernel_rfl)) (fun a12 he12 => ?_)
    clear he11
    refine wl_val he12 rfl rfl (.int .i64 (0)) (rn_move _ (Or.inl rfl) _ rfl) (fun a13 he13 => ?_)
    clear he12
    refine wl_end ?_
    refine wp_block ?_
    refine wp_loopN (fun mz az wz => ∃ (i : Nat), mz = n - (i) ∧ (i ≤ n ∧ ∀ j, j < i → holdsR (f j) s = false) ∧ EV az 33 [] [(0, .slice (some ⟨b, p, none⟩) (n) (c)), (1, .string (s)), (9, .slice (some ⟨b, p, none⟩) (n) (c)), (10, .bool true), (11, .bool false), (12, .bool false), (13, .string (s)), (14, .int .i64 ((((s).size : Nat) : Int))), (15, .bool false), (16, .bool false), (17, .slice (some ⟨b, p, none⟩) (n) (c)), (18, .int .i64 (((n : Nat) : Int))), (19, .int .i64 (((i : Nat) : Int)))] ∧ MM [] w wz []) ⟨_, 0, rfl, ⟨by omega, fun j hj => by omega⟩, he13.sub _ ⟨rfl, rfl, rfl, rfl, rfl, rfl, rfl, rfl, rfl, rfl, rfl, rfl, rfl, trivial⟩, hm1.sub _ trivial⟩ ?_
    rintro mz1 a14 w2 ⟨i, rfl, hrel1, he14, hm2⟩
    clear he13 hm1
    obtain ⟨hall, hn6⟩ := ruOks_all hd1
    have hs12 : s.size = 12 := by omega
    have hrel1a := hrel1.1
    refine wp_seqR ?_
    cases hd3 : (decide (((i : Nat) : Int) < ((n : Nat) : Int)))
    ·
     have hd3p := of_decide_eq_false hd3
     refine wl_val he14 rfl rfl (.bool false) (rn_bin _ _ _ _ _ rfl .i64 _ _ (he14.tmp 19 _ rfl) (he14.tmp 18 _ rfl) (.bool (decide (((i : Nat) : Int) < ((n : Nat) : Int)))) _ rfl (congrArg Value.bool (hd3))) (fun a15 he15 => ?_)
     clear he14
     refine wl_end ?_
     refine wp_seq ?_
     refine wp_condF (he := he15) rfl ?_
     refine wp_exit ?_
     refine exit_then ?_
     refine exit_then ?_
     refine exit_here ?_
     refine then_normal ?_
     refine wp_seqR ?_
     refine wl_val he15 rfl rfl (.int .i64 (1)) (rn_move _ (Or.inr rfl) _ rfl) (fun a16 he16 => ?_)
     clear he15
     refine wl_val he16 rfl rfl (.int .i64 (0)) (rn_move _ (Or.inr rfl) _ rfl) (fun a17 he17 => ?_)
     clear he16
     refine wl_end ?_
     refine wp_ret ?_
     exact bodyPost_ret (results_tmp2 he17 _ _ Try.results6 _ _ rfl rfl) he17.defers ⟨(by first | rw [ofM_no (by assumption)] | rw [ofM_no2 (by omega)] | rw [ofM_yes hd1 hs12, ofR_at (i := i) (by omega) hrel1.2 (by assumption)] | rw [ofM_yes hd1 hs12, ofR_end fun j hj => hrel1.2 j (by omega)]), hm2.below⟩
    ·
     have hd3p := of_decide_eq_true hd3
     refine wl_val he14 rfl rfl (.bool true) (rn_bin _ _ _ _ _ rfl .i64 _ _ (he14.tmp 19 _ rfl) (he14.tmp 18 _ rfl) (.bool (decide (((i : Nat) : Int) < ((n : Nat) : Int)))) _ rfl (congrArg Value.bool (hd3))) (fun a15 he15 => ?_)
     clear he14
     refine wl_end ?_
     refine wp_seq ?_
     refine wp_condT (he := he15) rfl ?_
     refine wp_skip ?_
     refine then_normal ?_
     refine wp_seq ?_
     refine wp_block ?_
     refine wp_seqR ?_
     refine wl_val he15 rfl rfl (.pointer (some ⟨b, p + i * 5, none⟩)) (rn_indexA _ _ _ rfl _ _ (.pointer (some ⟨b, p + i * 5, none⟩)) (he15.tmp 17 _ rfl) (he15.tmp 19 _ rfl) (ixS 30 5 (by kernel_rfl) (fun w => by kernel_rfl) (b) (p) (n) (c) (i) (by omega) _)) (fun a16 he16 => ?_)
     clear he15
     refine wl_val he16 rfl rfl (.agg (Ru.arr (f i))) (rn_rowA hm2 hR (by simp) (i) (by omega) _ _ rfl (he16.tmp 21 _ rfl) agg30 (by kernel_rfl)) (fun a17 he17 => ?_)
     clear he16
     refine wl_alloc he17 hm2 1 rfl rfl rfl _ rfl (.agg #[.int .i64 0, .int .i64 0, .int .i64 0, .int .i64 0, .int .i64 0]) (fun w => by kernel_rfl) (#[.int .i64 (0), .int .i64 (0), .int .i64 (0), .int .i64 (0), .int .i64 (0)]) rfl (fun a18 w3 b1 he18 hm3 => ?_)
     clear he17 hm2
     refine wl_store he18 hm3 1 rfl rfl rfl _ _ _ rfl (0) (he18.tmp 7 _ rfl) _ (he18.tmp 22 _ rfl) 5 agg30.size rfl (Ru.one _) (by decide) (Ru.arr (f i)) (by kernel_rfl) (fun w4 hm4 => ?_)
     clear hm3
     refine wl_end ?_
     refine wp_seqR ?_
     refine wl_val he18 rfl rfl (.agg (Ru.arr (f i))) (rn_loadA hm4 1 rfl _ _ rfl (0) (he18.tmp 7 _ rfl) 5 agg30 (Ru.arr (f i)) (by kernel_rfl) rfl) (fun a19 he19 => ?_)
     clear he18
     refine wl_callN he19 hm4 2 rfl rfl rfl _ #[.agg (Ru.arr (f i))] (enter_call _ _ _ rfl 17 #[] #[] rfl #[.agg (Ru.arr (f i))] (map1 (he19.tmp 23 _ rfl)) #[.agg (Ru.arr (f i))] rfl (fun _ _ => by kernel_rfl)) (c_rulingOf (f i) _) (fun x2 b2 a20 w5 hx2 he20 hm5 => ?_)
     clear he19 hm4
     refine wl_val he20 rfl rfl (.func (.func 33) #[] #[.pointer (some ⟨b2, 0, none⟩)]) (rn_move _ (Or.inr rfl) _ (he20.tmp 24 _ rfl)) (fun a21 he21 => ?_)
     clear he20
     refine wl_end ?_
     refine wp_seqR ?_
     refine wl_val he21 rfl rfl (.func (.func 33) #[] #[.pointer (some ⟨b2, 0, none⟩)]) (rn_move _ (Or.inl rfl) _ (he21.tmp 8 _ rfl)) (fun a22 he22 => ?_)
     clear he21
     refine wl_val he22 rfl rfl (.string (s)) (rn_move _ (Or.inl rfl) _ (he22.tmp 1 _ rfl)) (fun a23 he23 => ?_)
     clear he22
     cases hd4 : (holdsR (f i) s)
     ·
      refine wl_call he23 hm5 rfl rfl _ #[.string (s), .pointer (some ⟨b2, 0, none⟩)] (enter_call _ _ _ rfl 33 #[] #[.pointer (some ⟨b2, 0, none⟩)] (he23.tmp 25 _ rfl) #[.string (s)] (map1 (he23.tmp 26 _ rfl)) #[.string (s), .pointer (some ⟨b2, 0, none⟩)] rfl (fun _ _ => by kernel_rfl)) (.bool false) (callsV (congrArg Value.bool (hd4)) (c_ruling (f i) b2 s _ (hm5.bx 2 _ _ _ _ rfl) (hall i (by omega)) hs12)) (fun a24 w6 he24 hm6 => ?_)
      clear he23 hm5
      refine wl_end ?_
      refine wp_condF (he := he24) rfl ?_
      refine wp_skip ?_
      refine in_normal ?_
      refine then_normal ?_
      refine wp_region_lit ?_
      refine wl_val he24 rfl rfl (.int .i64 (((i + 1 : Nat) : Int))) (rn_bin _ _ _ _ _ rfl .i64 _ _ (he24.tmp 19 _ rfl) rfl (.int .i64 (IntKind.wrap .i64 (((i : Nat) : Int) + 1))) _ rfl (addN (i := i) (c := 1) (by omega))) (fun a25 he25 => ?_)
      clear he24
      refine wl_val he25 rfl rfl (.int .i64 (((i + 1 : Nat) : Int))) (rn_move _ (Or.inl rfl) _ (he25.tmp 32 _ rfl)) (fun a26 he26 => ?_)
      clear he25
      refine wpList_nil ?_
      exact ⟨n - (i + 1), by omega, i + 1, rfl, ⟨by omega, fun j hj => by rcases Nat.lt_or_ge j i with hh | hh; exact hrel1.2 j hh; rw [show j = i by omega]; assumption⟩, he26.sub _ ⟨rfl, rfl, rfl, rfl, rfl, rfl, rfl, rfl, rfl, rfl, rfl, rfl, rfl, trivial⟩, hm6.sub _ trivial⟩
     ·
      refine wl_call he23 hm5 rfl rfl _ #[.string (s), .pointer (some ⟨b2, 0, none⟩)] (enter_call _ _ _ rfl 33 #[] #[.pointer (some ⟨b2, 0, none⟩)] (he23.tmp 25 _ rfl) #[.string (s)] (map1 (he23.tmp 26 _ rfl)) #[.string (s), .pointer (some ⟨b2, 0, none⟩)] rfl (fun _ _ => by kernel_rfl)) (.bool true) (callsV (congrArg Value.bool (hd4)) (c_ruling (f i) b2 s _ (hm5.bx 2 _ _ _ _ rfl) (hall i (by omega)) hs12)) (fun a24 w6 he24 hm6 => ?_)
      clear he23 hm5
      refine wl_end ?_
      refine wp_condT (he := he24) rfl ?_
      refine wp_seq ?_
      refine wh_begin (by kernel_rfl) hm6 [(1, ⟨true, b1, 30, Ru.arr (f i)⟩), (2, ⟨true, b2, 30, Ru.arr (f i)⟩)] ⟨rfl, rfl, trivial⟩ (fun w7 hm7 => ?_)
      clear hm6
      refine tk (fuel := 5) (i := 0) ?_ he24 hm7 ⟨rfl, rfl, trivial⟩ (.pointer (some ⟨b1, 3, none⟩)) ?_ ?_ ?_ ?_ fun a25 he25 => ?_
      rotate_left
      rw [List.getElem?_toArray]; rfl
      exact ⟨by kernel_rfl, by kernel_rfl, by kernel_rfl⟩
      exact ⟨fun _ _ _ _ h => h, rfl, rfl⟩
      exact fun wS hmS => rn_field _ _ _ rfl _ (.pointer (some ⟨b1, 3, none⟩)) (he24.tmp 7 _ rfl) (by kernel_rfl)
      clear he24
      refine tk (fuel := 4) (i := 1) ?_ he25 hm7 ⟨rfl, rfl, trivial⟩ (.int .i64 ((f i).ver)) ?_ ?_ ?_ ?_ fun a26 he26 => ?_
      rotate_left
      rw [List.getElem?_toArray]; rfl
      exact ⟨by kernel_rfl, by kernel_rfl, by kernel_rfl⟩
      exact ⟨fun _ _ _ _ h => h, rfl, rfl⟩
      exact fun wS hmS => rn_load1 hmS 1 rfl _ _ rfl (3) (he25.tmp 28 _ rfl) one3 _ rfl
      clear he25
      refine tk (fuel := 3) (i := 2) ?_ he26 hm7 ⟨rfl, rfl, trivial⟩ (.pointer (some ⟨b1, 4, none⟩)) ?_ ?_ ?_ ?_ fun a27 he27 => ?_
      rotate_left
      rw [List.getElem?_toArray]; rfl
      exact ⟨by kernel_rfl, by kernel_rfl, by kernel_rfl⟩
      exact ⟨fun _ _ _ _ h => h, rfl, rfl⟩
      exact fun wS hmS => rn_field _ _ _ rfl _ (.pointer (some ⟨b1, 4, none⟩)) (he26.tmp 7 _ rfl) (by kernel_rfl)
      clear he26
      refine tk (fuel := 2) (i := 3) ?_ he27 hm7 ⟨rfl, rfl, trivial⟩ (.int .i64 ((f i).key)) ?_ ?_ ?_ ?_ fun a28 he28 => ?_
      rotate_left
      rw [List.getElem?_toArray]; rfl
      exact ⟨by kernel_rfl, by kernel_rfl, by kernel_rfl⟩
      exact ⟨fun _ _ _ _ h => h, rfl, rfl⟩
      exact fun wS hmS => rn_load1 hmS 1 rfl _ _ rfl (4) (he27.tmp 30 _ rfl) one3 _ rfl
      clear he27
      refine tk (fuel := 1) (i := 4) ?_ he28 hm7 ⟨rfl, rfl, trivial⟩ (.int .i64 ((f i).ver)) ?_ ?_ ?_ ?_ fun a29 he29 => ?_
      rotate_left
      rw [List.getElem?_toArray]; rfl
      exact ⟨by kernel_rfl, by kernel_rfl, by kernel_rfl⟩
      exact ⟨fun _ _ _ _ h => h, rfl, rfl⟩
      exact fun wS hmS => rn_move _ (Or.inr rfl) _ (he28.tmp 29 _ rfl)
      clear he28
      refine tk (fuel := 0) (i := 5) ?_ he29 hm7 ⟨rfl, rfl, trivial⟩ (.int .i64 ((f i).key)) ?_ ?_ ?_ ?_ fun a30 he30 => ?_
      rotate_left
      rw [List.getElem?_toArray]; rfl
      exact ⟨by kernel_rfl, by kernel_rfl, by kernel_rfl⟩
      exact ⟨fun _ _ _ _ h => h, rfl, rfl⟩
      exact fun wS hmS => rn_move _ (Or.inr rfl) _ (he29.tmp 31 _ rfl)
      clear he29
      refine wpAnyH_done (by kernel_rfl) ?_ _
      refine then_normal ?_
      refine wp_ret ?_
      refine ret_in ?_
      refine ret_then ?_
      refine ret_then ?_
      refine ret_in ?_
      refine ret_then ?_
      exact bodyPost_ret (results_tmp2 he30 _ _ Try.results6 _ _ rfl rfl) he30.defers ⟨(by first | rw [ofM_no (by assumption)] | rw [ofM_no2 (by omega)] | rw [ofM_yes hd1 hs12, ofR_at (i := i) (by omega) hrel1.2 (by assumption)] | rw [ofM_yes hd1 hs12, ofR_end fun j hj => hrel1.2 j (by omega)]), hm7.below⟩
   ·
    have hd2p : (((s).size : Nat) : Int) ≠ 12 := by simpa using hd2
    refine wl_val he8 rfl (wanted_slot he8 3 false rfl 12 rfl false rfl true rfl) (.bool true) (rn_bin _ _ _ _ _ rfl .i64 _ _ (he8.tmp 14 _ rfl) rfl (.bool (((((s).size : Nat) : Int) != 12))) _ rfl (congrArg Value.bool (hd2))) (fun a9 he9 => ?_)
    clear he8
    refine wl_val he9 rfl rfl (.bool true) (rn_pickF _ _ _ rfl (he9.tmp 12 _ rfl) _ (he9.tmp 15 _ rfl)) (fun a10 he10 => ?_)
    clear he9
    refine wl_end ?_
    refine wp_condT (he := he10) rfl ?_
    refine wp_seqR ?_
    refine wl_val he10 rfl rfl (.int .i64 ((-1))) (rn_move _ (Or.inr rfl) _ rfl) (fun a11 he11 => ?_)
    clear he10
    refine wl_val he11 rfl rfl (.int .i64 (0)) (rn_move _ (Or.inr rfl) _ rfl) (fun a12 he12 => ?_)
    clear he11
    refine wl_end ?_
    refine wp_ret ?_
    refine ret_then ?_
    exact bodyPost_ret (results_tmp2 he12 _ _ Try.results6 _ _ rfl rfl) he12.defers ⟨(by first | rw [ofM_no (by assumption)] | rw [ofM_no2 (by omega)] | rw [ofM_yes hd1 hs12, ofR_at (i := i) (by omega) hrel1.2 (by assumption)] | rw [ofM_yes hd1 hs12, ofR_end fun j hj => hrel1.2 j (by omega)]), hm1.below⟩
theorem c_l9Of (f : Nat → Ru) (b p n c : Nat) (s : ByteArray) (w : World) (hR : RowAt w b p n 5 fun i => (f i).arr) (hn : n ≤ 1048576) (hall : ∀ i, i < n → ruOk (f i) = true) (hz : ((s.size : Nat) : Int) = 12) :
    Calls Try.prog 19 #[.slice (some ⟨b, p, none⟩) (n) (c), .string (s)] w fun e w' => e = .returned (.tuple #[.int .i64 (ofR f s n 0).1, .int .i64 (ofR f s n 0).2]) ∧ Below w.heap.size w w' := by
  refine calls_begin Try.func19 rfl 42 rfl (Nat.le_of_ble_eq_true rfl) [(0, .slice (some ⟨b, p, none⟩) (n) (c)), (1, .string (s))] ⟨rfl, rfl, trivial⟩ (fun a0 he0 hm0 => ?_)
  refine wp_seqR ?_
  refine wl_val he0 rfl rfl (.int .i64 (0)) (rn_move _ (Or.inr rfl) _ rfl) (fun a1 he1 => ?_)
  clear he0
  refine wl_val he1 rfl rfl (.int .i64 (0)) (rn_move _ (Or.inr rfl) _ rfl) (fun a2 he2 => ?_)
  clear he1
  refine wl_end ?_
  refine wp_seq ?_
  refine wp_seqR ?_
  refine wl_val he2 rfl rfl (.int .i64 (0)) (rn_move _ (Or.inr rfl) _ rfl) (fun a3 he3 => ?_)
  clear he2
  refine wl_end ?_
  refine wp_block ?_
  refine wp_loopN (fun mz az wz => ∃ (i : Nat), mz = n - (i) ∧ (i ≤ n ∧ ∀ j, j < i → holdsR (f j) s = false) ∧ EV az 42 [] [(0, .slice (some ⟨b, p, none⟩) (n) (c)), (1, .string (s)), (6, .int .i64 (((i : Nat) : Int)))] ∧ MM [] w wz []) ⟨_, 0, rfl, ⟨by omega, fun j hj => by omega⟩, he3.sub _ ⟨rfl, rfl, rfl, trivial⟩, hm0.sub _ trivial⟩ ?_
  rintro mz1 a4 w1 ⟨i, rfl, hrel1, he4, hm1⟩
  clear he3 hm0
  have hs12 : s.size = 12 := by omega
  have hrel1a := hrel1.1
  refine wp_seq ?_
  refine wp_seqR ?_
  refine wl_val he4 rfl rfl (.int .i64 (((i : Nat) : Int))) (rn_move _ (Or.inl rfl) _ (he4.tmp 6 _ rfl)) (fun a5 he5 => ?_)
  clear he4
  refine wl_val he5 rfl rfl (.slice (some ⟨b, p, none⟩) (n) (c)) (rn_move _ (Or.inl rfl) _ (he5.tmp 0 _ rfl)) (fun a6 he6 => ?_)
  clear he5
  refine wl_val he6 rfl rfl (.int .i64 (((n : Nat) : Int))) (rn_builtin _ _ _ rfl #[.slice (some ⟨b, p, none⟩) (n) (c)] (map1 (he6.tmp 8 _ rfl)) (.int .i64 (((n : Nat) : Int))) (by kernel_rfl)) (fun a7 he7 => ?_)
  clear he6
  cases hd1 : (decide (((i : Nat) : Int) < ((n : Nat) : Int)))
  ·
   have hd1p := of_decide_eq_false hd1
   refine wl_val he7 rfl rfl (.bool false) (rn_bin _ _ _ _ _ rfl .i64 _ _ (he7.tmp 7 _ rfl) (he7.tmp 9 _ rfl) (.bool (decide (((i : Nat) : Int) < ((n : Nat) : Int)))) _ rfl (congrArg Value.bool (hd1))) (fun a8 he8 => ?_)
   clear he7
   refine wl_end ?_
   refine wp_condF (he := he8) rfl ?_
   refine wp_exit ?_
   refine exit_then ?_
   refine exit_then ?_
   refine exit_here ?_
   refine then_normal ?_
   refine wp_seqR ?_
   refine wl_val he8 rfl rfl (.int .i64 (1)) (rn_move _ (Or.inr rfl) _ rfl) (fun a9 he9 => ?_)
   clear he8
   refine wl_val he9 rfl rfl (.int .i64 (0)) (rn_move _ (Or.inr rfl) _ rfl) (fun a10 he10 => ?_)
   clear he9
   refine wl_end ?_
   refine wp_ret ?_
   exact bodyPost_ret (results_tmp2 he10 _ _ Try.results19 _ _ rfl rfl) he10.defers ⟨(by first | rw [ofR_at (i := i) (by omega) hrel1.2 (by assumption)] | rw [ofR_end fun j hj => hrel1.2 j (by omega)]), hm1.below⟩
  ·
   have hd1p := of_decide_eq_true hd1
   refine wl_val he7 rfl rfl (.bool true) (rn_bin _ _ _ _ _ rfl .i64 _ _ (he7.tmp 7 _ rfl) (he7.tmp 9 _ rfl) (.bool (decide (((i : Nat) : Int) < ((n : Nat) : Int)))) _ rfl (congrArg Value.bool (hd1))) (fun a8 he8 => ?_)
   clear he7
   refine wl_end ?_
   refine wp_condT (he := he8) rfl ?_
   refine wp_skip ?_
   refine then_normal ?_
   refine wp_seq ?_
   refine wp_block ?_
   refine wp_seq ?_
   refine wh_begin (by kernel_rfl) hm1 [] trivial (fun w2 hm2 => ?_)
   clear hm1
   refine tk (fuel := 18) (i := 0) ?_ he8 hm2 trivial (.slice (some ⟨b, p, none⟩) (n) (c)) ?_ ?_ ?_ ?_ fun a9 he9 => ?_
   rotate_left
   rw [List.getElem?_toArray]; rfl
   exact ⟨by kernel_rfl, by kernel_rfl, by kernel_rfl⟩
   exact ⟨fun _ _ _ _ h => h, rfl, rfl⟩
   exact fun wS hmS => rn_move _ (Or.inl rfl) _ (he8.tmp 0 _ rfl)
   clear he8
   refine tk (fuel := 17) (i := 1) ?_ he9 hm2 trivial (.int .i64 (((i : Nat) : Int))) ?_ ?_ ?_ ?_ fun a10 he10 => ?_
   rotate_left
   rw [List.getElem?_toArray]; rfl
   exact ⟨by kernel_rfl, by kernel_rfl, by kernel_rfl⟩
   exact ⟨fun _ _ _ _ h => h, rfl, rfl⟩
   exact fun wS hmS => rn_move _ (Or.inl rfl) _ (he9.tmp 6 _ rfl)
   clear he9
   refine tk (fuel := 16) (i := 2) ?_ he10 hm2 trivial (.pointer (some ⟨b, p + i * 5, none⟩)) ?_ ?_ ?_ ?_ fun a11 he11 => ?_
   rotate_left
   rw [List.getElem?_toArray]; rfl
   exact ⟨by kernel_rfl, by kernel_rfl, by kernel_rfl⟩
   exact ⟨fun _ _ _ _ h => h, rfl, rfl⟩
   exact fun wS hmS => rn_indexA _ _ _ rfl _ _ (.pointer (some ⟨b, p + i * 5, none⟩)) (he10.tmp 13 _ rfl) (he10.tmp 14 _ rfl) (ixS 30 5 (by kernel_rfl) (fun w => by kernel_rfl) (b) (p) (n) (c) (i) (by omega) _)
   clear he10
   refine tk (fuel := 15) (i := 3) ?_ he11 hm2 trivial (.pointer (some ⟨b, p + i * 5 + 1, none⟩)) ?_ ?_ ?_ ?_ fun a12 he12 => ?_
   rotate_left
   rw [List.getElem?_toArray]; rfl
   exact ⟨by kernel_rfl, by kernel_rfl, by kernel_rfl⟩
   exact ⟨fun _ _ _ _ h => h, rfl, rfl⟩
   exact fun wS hmS => rn_field _ _ _ rfl _ (.pointer (some ⟨b, p + i * 5 + 1, none⟩)) (he11.tmp 15 _ rfl) (by kernel_rfl)
   clear he11
   refine tk (fuel := 14) (i := 4) ?_ he12 hm2 trivial (.int .i64 ((f i).op)) ?_ ?_ ?_ ?_ fun a13 he13 => ?_
   rotate_left
   rw [List.getElem?_toArray]; rfl
   exact ⟨by kernel_rfl, by kernel_rfl, by kernel_rfl⟩
   exact ⟨fun _ _ _ _ h => h, rfl, rfl⟩
   exact fun wS hmS => rn_row1 hmS hR (by simp) (i) (by omega) 1 (by omega) _ _ rfl (he12.tmp 16 _ rfl) one3 _ rfl
   clear he12
   refine tk (fuel := 13) (i := 5) ?_ he13 hm2 trivial (.string (s)) ?_ ?_ ?_ ?_ fun a14 he14 => ?_
   rotate_left
   rw [List.getElem?_toArray]; rfl
   exact ⟨by kernel_rfl, by kernel_rfl, by kernel_rfl⟩
   exact ⟨fun _ _ _ _ h => h, rfl, rfl⟩
   exact fun wS hmS => rn_move _ (Or.inl rfl) _ (he13.tmp 1 _ rfl)
   clear he13
   refine tk (fuel := 12) (i := 6) ?_ he14 hm2 trivial (.slice (some ⟨b, p, none⟩) (n) (c)) ?_ ?_ ?_ ?_ fun a15 he15 => ?_
   rotate_left
   rw [List.getElem?_toArray]; rfl
   exact ⟨by kernel_rfl, by kernel_rfl, by kernel_rfl⟩
   exact ⟨fun _ _ _ _ h => h, rfl, rfl⟩
   exact fun wS hmS => rn_move _ (Or.inl rfl) _ (he14.tmp 0 _ rfl)
   clear he14
   refine tk (fuel := 11) (i := 7) ?_ he15 hm2 trivial (.int .i64 (((i : Nat) : Int))) ?_ ?_ ?_ ?_ fun a16 he16 => ?_
   rotate_left
   rw [List.getElem?_toArray]; rfl
   exact ⟨by kernel_rfl, by kernel_rfl, by kernel_rfl⟩
   exact ⟨fun _ _ _ _ h => h, rfl, rfl⟩
   exact fun wS hmS => rn_move _ (Or.inl rfl) _ (he15.tmp 6 _ rfl)
   clear he15
   refine tk (fuel := 10) (i := 8) ?_ he16 hm2 trivial (.pointer (some ⟨b, p + i * 5, none⟩)) ?_ ?_ ?_ ?_ fun a17 he17 => ?_
   rotate_left
   rw [List.getElem?_toArray]; rfl
   exact ⟨by kernel_rfl, by kernel_rfl, by kernel_rfl⟩
   exact ⟨fun _ _ _ _ h => h, rfl, rfl⟩
   exact fun wS hmS => rn_indexA _ _ _ rfl _ _ (.pointer (some ⟨b, p + i * 5, none⟩)) (he16.tmp 19 _ rfl) (he16.tmp 20 _ rfl) (ixS 30 5 (by kernel_rfl) (fun w => by kernel_rfl) (b) (p) (n) (c) (i) (by omega) _)
   clear he16
   refine tk (fuel := 9) (i := 9) ?_ he17 hm2 trivial (.pointer (some ⟨b, p + i * 5, none⟩)) ?_ ?_ ?_ ?_ fun a18 he18 => ?_
   rotate_left
   rw [List.getElem?_toArray]; rfl
   exact ⟨by kernel_rfl, by kernel_rfl, by kernel_rfl⟩
   exact ⟨fun _ _ _ _ h => h, rfl, rfl⟩
   exact fun wS hmS => rn_field _ _ _ rfl _ (.pointer (some ⟨b, p + i * 5, none⟩)) (he17.tmp 21 _ rfl) (by kernel_rfl)
   clear he17
   refine tk (fuel := 8) (i := 10) ?_ he18 hm2 trivial (.int .i64 ((((f i).at_.toNat : Nat) : Int))) ?_ ?_ ?_ ?_ fun a19 he19 => ?_
   rotate_left
   rw [List.getElem?_toArray]; rfl
   exact ⟨by kernel_rfl, by kernel_rfl, by kernel_rfl⟩
   exact ⟨fun _ _ _ _ h => h, rfl, rfl⟩
   exact fun wS hmS => rn_row1 hmS hR (by simp) (i) (by omega) 0 (by omega) _ _ rfl (he18.tmp 22 _ rfl) one3 _ (Ru.g_at _ (hall i (by omega)))
   clear he18
   refine tk (fuel := 7) (i := 11) ?_ he19 hm2 trivial (.int .u8 (((byteAt (s) ((f i).at_.toNat) : Nat) : Int))) ?_ ?_ ?_ ?_ fun a20 he20 => ?_
   rotate_left
   rw [List.getElem?_toArray]; rfl
   exact ⟨by kernel_rfl, by kernel_rfl, by kernel_rfl⟩
   exact ⟨fun _ _ _ _ h => h, rfl, rfl⟩
   exact fun wS hmS => rn_sbyte _ (by kernel_rfl) _ _ rfl _ ((f i).at_.toNat) (he19.tmp 18 _ rfl) (he19.tmp 23 _ rfl) (at_lt (hall i (by omega)) hs12)
   clear he19
   refine tk (fuel := 6) (i := 12) ?_ he20 hm2 trivial (.int .i64 (((byteAt (s) ((f i).at_.toNat) : Nat) : Int))) ?_ ?_ ?_ ?_ fun a21 he21 => ?_
   rotate_left
   rw [List.getElem?_toArray]; rfl
   exact ⟨by kernel_rfl, by kernel_rfl, by kernel_rfl⟩
   exact ⟨fun _ _ _ _ h => h, rfl, rfl⟩
   exact fun wS hmS => rn_conv _ _ _ rfl _ (.int .i64 (IntKind.i64.wrap (((byteAt (s) ((f i).at_.toNat) : Nat) : Int)))) _ (he20.tmp 24 _ rfl) (by kernel_rfl) (cvn (n := byteAt (s) ((f i).at_.toNat)) (by first | omega | exact Nat.le_trans (Nat.le_of_lt (byteAt_lt _ _)) (by decide)))
   clear he20
   refine tk (fuel := 5) (i := 13) ?_ he21 hm2 trivial (.slice (some ⟨b, p, none⟩) (n) (c)) ?_ ?_ ?_ ?_ fun a22 he22 => ?_
   rotate_left
   rw [List.getElem?_toArray]; rfl
   exact ⟨by kernel_rfl, by kernel_rfl, by kernel_rfl⟩
   exact ⟨fun _ _ _ _ h => h, rfl, rfl⟩
   exact fun wS hmS => rn_move _ (Or.inl rfl) _ (he21.tmp 0 _ rfl)
   clear he21
   refine tk (fuel := 4) (i := 14) ?_ he22 hm2 trivial (.int .i64 (((i : Nat) : Int))) ?_ ?_ ?_ ?_ fun a23 he23 => ?_
   rotate_left
   rw [List.getElem?_toArray]; rfl
   exact ⟨by kernel_rfl, by kernel_rfl, by kernel_rfl⟩
   exact ⟨fun _ _ _ _ h => h, rfl, rfl⟩
   exact fun wS hmS => rn_move _ (Or.inl rfl) _ (he22.tmp 6 _ rfl)
   clear he22
   refine tk (fuel := 3) (i := 15) ?_ he23 hm2 trivial (.pointer (some ⟨b, p + i * 5, none⟩)) ?_ ?_ ?_ ?_ fun a24 he24 => ?_
   rotate_left
   rw [List.getElem?_toArray]; rfl
   exact ⟨by kernel_rfl, by kernel_rfl, by kernel_rfl⟩
   exact ⟨fun _ _ _ _ h => h, rfl, rfl⟩
   exact fun wS hmS => rn_indexA _ _ _ rfl _ _ (.pointer (some ⟨b, p + i * 5, none⟩)) (he23.tmp 26 _ rfl) (he23.tmp 27 _ rfl) (ixS 30 5 (by kernel_rfl) (fun w => by kernel_rfl) (b) (p) (n) (c) (i) (by omega) _)
   clear he23
   refine tk (fuel := 2) (i := 16) ?_ he24 hm2 trivial (.pointer (some ⟨b, p + i * 5 + 2, none⟩)) ?_ ?_ ?_ ?_ fun a25 he25 => ?_
   rotate_left
   rw [List.getElem?_toArray]; rfl
   exact ⟨by kernel_rfl, by kernel_rfl, by kernel_rfl⟩
   exact ⟨fun _ _ _ _ h => h, rfl, rfl⟩
   exact fun wS hmS => rn_field _ _ _ rfl _ (.pointer (some ⟨b, p + i * 5 + 2, none⟩)) (he24.tmp 28 _ rfl) (by kernel_rfl)
   clear he24
   refine tk (fuel := 1) (i := 17) ?_ he25 hm2 trivial (.int .i64 ((f i).num)) ?_ ?_ ?_ ?_ fun a26 he26 => ?_
   rotate_left
   rw [List.getElem?_toArray]; rfl
   exact ⟨by kernel_rfl, by kernel_rfl, by kernel_rfl⟩
   exact ⟨fun _ _ _ _ h => h, rfl, rfl⟩
   exact fun wS hmS => rn_row1 hmS hR (by simp) (i) (by omega) 2 (by omega) _ _ rfl (he25.tmp 29 _ rfl) one3 _ rfl
   clear he25
   cases hd2 : (holdsR (f i) s)
   ·
    refine wh_call (i := 18) (op := ?op1d10_18) (fuel := 0) ?hr1d10_18 ?hi1d10_18 he26 hm2 trivial ?hd1d10_18 ?hw1d10_18 _ #[.int .i64 ((f i).op), .int .i64 (((byteAt (s) ((f i).at_.toNat) : Nat) : Int)), .int .i64 ((f i).num)] ?en1d10_18 (.bool false) (callsV (congrArg Value.bool (hd2)) (callsS (H.c_l2Holds _ _ _ _))) (fun a27 w3 he27 hm3 => ?k1d10_18)
    case hi1d10_18 => rw [List.getElem?_toArray]; rfl
    case hw1d10_18 => exact rfl
    case hr1d10_18 => kernel_rfl
    case hd1d10_18 => rfl
    case en1d10_18 => exact (enter_call _ _ _ rfl 35 #[] #[] rfl #[.int .i64 ((f i).op), .int .i64 (((byteAt (s) ((f i).at_.toNat) : Nat) : Int)), .int .i64 ((f i).num)] (map3 (he26.tmp 17 _ rfl) (he26.tmp 25 _ rfl) (he26.tmp 30 _ rfl)) #[.int .i64 ((f i).op), .int .i64 (((byteAt (s) ((f i).at_.toNat) : Nat) : Int)), .int .i64 ((f i).num)] rfl (fun _ _ => by kernel_rfl))
    clear he26 hm2
    refine wpAnyH_done (by kernel_rfl) ?_ _
    refine then_normal ?_
    refine wp_condF (he := he27) rfl ?_
    refine wp_skip ?_
    refine in_normal ?_
    refine then_normal ?_
    refine wp_region_lit ?_
    refine wl_val he27 rfl rfl (.int .i64 (((i : Nat) : Int))) (rn_move _ (Or.inl rfl) _ (he27.tmp 6 _ rfl)) (fun a28 he28 => ?_)
    clear he27
    refine wl_val he28 rfl rfl (.int .i64 (((i + 1 : Nat) : Int))) (rn_bin _ _ _ _ _ rfl .i64 _ _ (he28.tmp 11 _ rfl) rfl (.int .i64 (IntKind.wrap .i64 (((i : Nat) : Int) + 1))) _ rfl (addN (i := i) (c := 1) (by omega))) (fun a29 he29 => ?_)
    clear he28
    refine wl_val he29 rfl rfl (.int .i64 (((i + 1 : Nat) : Int))) (rn_move _ (Or.inr rfl) _ (he29.tmp 12 _ rfl)) (fun a30 he30 => ?_)
    clear he29
    refine wpList_nil ?_
    exact ⟨n - (i + 1), by omega, i + 1, rfl, ⟨by omega, fun j hj => by rcases Nat.lt_or_ge j i with hh | hh; exact hrel1.2 j hh; rw [show j = i by omega]; assumption⟩, he30.sub _ ⟨rfl, rfl, rfl, trivial⟩, hm3.sub _ trivial⟩
   ·
    refine wh_call (i := 18) (op := ?op1d11_18) (fuel := 0) ?hr1d11_18 ?hi1d11_18 he26 hm2 trivial ?hd1d11_18 ?hw1d11_18 _ #[.int .i64 ((f i).op), .int .i64 (((byteAt (s) ((f i).at_.toNat) : Nat) : Int)), .int .i64 ((f i).num)] ?en1d11_18 (.bool true) (callsV (congrArg Value.bool (hd2)) (callsS (H.c_l2Holds _ _ _ _))) (fun a27 w3 he27 hm3 => ?k1d11_18)
    case hi1d11_18 => rw [List.getElem?_toArray]; rfl
    case hw1d11_18 => exact rfl
    case hr1d11_18 => kernel_rfl
    case hd1d11_18 => rfl
    case en1d11_18 => exact (enter_call _ _ _ rfl 35 #[] #[] rfl #[.int .i64 ((f i).op), .int .i64 (((byteAt (s) ((f i).at_.toNat) : Nat) : Int)), .int .i64 ((f i).num)] (map3 (he26.tmp 17 _ rfl) (he26.tmp 25 _ rfl) (he26.tmp 30 _ rfl)) #[.int .i64 ((f i).op), .int .i64 (((byteAt (s) ((f i).at_.toNat) : Nat) : Int)), .int .i64 ((f i).num)] rfl (fun _ _ => by kernel_rfl))
    clear he26 hm2
    refine wpAnyH_done (by kernel_rfl) ?_ _
    refine then_normal ?_
    refine wp_condT (he := he27) rfl ?_
    refine wp_seq ?_
    refine wh_begin (by kernel_rfl) hm3 [] trivial (fun w4 hm4 => ?_)
    clear hm3
    refine tk (fuel := 11) (i := 0) ?_ he27 hm4 trivial (.slice (some ⟨b, p, none⟩) (n) (c)) ?_ ?_ ?_ ?_ fun a28 he28 => ?_
    rotate_left
    rw [List.getElem?_toArray]; rfl
    exact ⟨by kernel_rfl, by kernel_rfl, by kernel_rfl⟩
    exact ⟨fun _ _ _ _ h => h, rfl, rfl⟩
    exact fun wS hmS => rn_move _ (Or.inl rfl) _ (he27.tmp 0 _ rfl)
    clear he27
    refine tk (fuel := 10) (i := 1) ?_ he28 hm4 trivial (.int .i64 (((i : Nat) : Int))) ?_ ?_ ?_ ?_ fun a29 he29 => ?_
    rotate_left
    rw [List.getElem?_toArray]; rfl
    exact ⟨by kernel_rfl, by kernel_rfl, by kernel_rfl⟩
    exact ⟨fun _ _ _ _ h => h, rfl, rfl⟩
    exact fun wS hmS => rn_move _ (Or.inl rfl) _ (he28.tmp 6 _ rfl)
    clear he28
    refine tk (fuel := 9) (i := 2) ?_ he29 hm4 trivial (.pointer (some ⟨b, p + i * 5, none⟩)) ?_ ?_ ?_ ?_ fun a30 he30 => ?_
    rotate_left
    rw [List.getElem?_toArray]; rfl
    exact ⟨by kernel_rfl, by kernel_rfl, by kernel_rfl⟩
    exact ⟨fun _ _ _ _ h => h, rfl, rfl⟩
    exact fun wS hmS => rn_indexA _ _ _ rfl _ _ (.pointer (some ⟨b, p + i * 5, none⟩)) (he29.tmp 32 _ rfl) (he29.tmp 33 _ rfl) (ixS 30 5 (by kernel_rfl) (fun w => by kernel_rfl) (b) (p) (n) (c) (i) (by omega) _)
    clear he29
    refine tk (fuel := 8) (i := 3) ?_ he30 hm4 trivial (.pointer (some ⟨b, p + i * 5 + 3, none⟩)) ?_ ?_ ?_ ?_ fun a31 he31 => ?_
    rotate_left
    rw [List.getElem?_toArray]; rfl
    exact ⟨by kernel_rfl, by kernel_rfl, by kernel_rfl⟩
    exact ⟨fun _ _ _ _ h => h, rfl, rfl⟩
    exact fun wS hmS => rn_field _ _ _ rfl _ (.pointer (some ⟨b, p + i * 5 + 3, none⟩)) (he30.tmp 34 _ rfl) (by kernel_rfl)
    clear he30
    refine tk (fuel := 7) (i := 4) ?_ he31 hm4 trivial (.int .i64 ((f i).ver)) ?_ ?_ ?_ ?_ fun a32 he32 => ?_
    rotate_left
    rw [List.getElem?_toArray]; rfl
    exact ⟨by kernel_rfl, by kernel_rfl, by kernel_rfl⟩
    exact ⟨fun _ _ _ _ h => h, rfl, rfl⟩
    exact fun wS hmS => rn_row1 hmS hR (by simp) (i) (by omega) 3 (by omega) _ _ rfl (he31.tmp 35 _ rfl) one3 _ rfl
    clear he31
    refine tk (fuel := 6) (i := 5) ?_ he32 hm4 trivial (.slice (some ⟨b, p, none⟩) (n) (c)) ?_ ?_ ?_ ?_ fun a33 he33 => ?_
    rotate_left
    rw [List.getElem?_toArray]; rfl
    exact ⟨by kernel_rfl, by kernel_rfl, by kernel_rfl⟩
    exact ⟨fun _ _ _ _ h => h, rfl, rfl⟩
    exact fun wS hmS => rn_move _ (Or.inl rfl) _ (he32.tmp 0 _ rfl)
    clear he32
    refine tk (fuel := 5) (i := 6) ?_ he33 hm4 trivial (.int .i64 (((i : Nat) : Int))) ?_ ?_ ?_ ?_ fun a34 he34 => ?_
    rotate_left
    rw [List.getElem?_toArray]; rfl
    exact ⟨by kernel_rfl, by kernel_rfl, by kernel_rfl⟩
    exact ⟨fun _ _ _ _ h => h, rfl, rfl⟩
    exact fun wS hmS => rn_move _ (Or.inl rfl) _ (he33.tmp 6 _ rfl)
    clear he33
    refine tk (fuel := 4) (i := 7) ?_ he34 hm4 trivial (.pointer (some ⟨b, p + i * 5, none⟩)) ?_ ?_ ?_ ?_ fun a35 he35 => ?_
    rotate_left
    rw [List.getElem?_toArray]; rfl
    exact ⟨by kernel_rfl, by kernel_rfl, by kernel_rfl⟩
    exact ⟨fun _ _ _ _ h => h, rfl, rfl⟩
    exact fun wS hmS => rn_indexA _ _ _ rfl _ _ (.pointer (some ⟨b, p + i * 5, none⟩)) (he34.tmp 37 _ rfl) (he34.tmp 38 _ rfl) (ixS 30 5 (by kernel_rfl) (fun w => by kernel_rfl) (b) (p) (n) (c) (i) (by omega) _)
    clear he34
    refine tk (fuel := 3) (i := 8) ?_ he35 hm4 trivial (.pointer (some ⟨b, p + i * 5 + 4, none⟩)) ?_ ?_ ?_ ?_ fun a36 he36 => ?_
    rotate_left
    rw [List.getElem?_toArray]; rfl
    exact ⟨by kernel_rfl, by kernel_rfl, by kernel_rfl⟩
    exact ⟨fun _ _ _ _ h => h, rfl, rfl⟩
    exact fun wS hmS => rn_field _ _ _ rfl _ (.pointer (some ⟨b, p + i * 5 + 4, none⟩)) (he35.tmp 39 _ rfl) (by kernel_rfl)
    clear he35
    refine tk (fuel := 2) (i := 9) ?_ he36 hm4 trivial (.int .i64 ((f i).key)) ?_ ?_ ?_ ?_ fun a37 he37 => ?_
    rotate_left
    rw [List.getElem?_toArray]; rfl
    exact ⟨by kernel_rfl, by kernel_rfl, by kernel_rfl⟩
    exact ⟨fun _ _ _ _ h => h, rfl, rfl⟩
    exact fun wS hmS => rn_row1 hmS hR (by simp) (i) (by omega) 4 (by omega) _ _ rfl (he36.tmp 40 _ rfl) one3 _ rfl
    clear he36
    refine tk (fuel := 1) (i := 10) ?_ he37 hm4 trivial (.int .i64 ((f i).ver)) ?_ ?_ ?_ ?_ fun a38 he38 => ?_
    rotate_left
    rw [List.getElem?_toArray]; rfl
    exact ⟨by kernel_rfl, by kernel_rfl, by kernel_rfl⟩
    exact ⟨fun _ _ _ _ h => h, rfl, rfl⟩
    exact fun wS hmS => rn_move _ (Or.inr rfl) _ (he37.tmp 36 _ rfl)
    clear he37
    refine tk (fuel := 0) (i := 11) ?_ he38 hm4 trivial (.int .i64 ((f i).key)) ?_ ?_ ?_ ?_ fun a39 he39 => ?_
    rotate_left
    rw [List.getElem?_toArray]; rfl
    exact ⟨by kernel_rfl, by kernel_rfl, by kernel_rfl⟩
    exact ⟨fun _ _ _ _ h => h, rfl, rfl⟩
    exact fun wS hmS => rn_move _ (Or.inr rfl) _ (he38.tmp 41 _ rfl)
    clear he38
    refine wpAnyH_done (by kernel_rfl) ?_ _
    refine then_normal ?_
    refine wp_ret ?_
    refine ret_in ?_
    refine ret_then ?_
    refine ret_then ?_
    refine ret_in ?_
    refine ret_then ?_
    exact bodyPost_ret (results_tmp2 he39 _ _ Try.results19 _ _ rfl rfl) he39.defers ⟨(by first | rw [ofR_at (i := i) (by omega) hrel1.2 (by assumption)] | rw [ofR_end fun j hj => hrel1.2 j (by omega)]), hm4.below⟩
theorem c_spOf (f : Nat → Ru) (b p n c : Nat) (s : ByteArray) (w : World) (hR : RowAt w b p n 5 fun i => (f i).arr) (hn : n ≤ 1048576) :
    Calls Try.prog 7 #[.slice (some ⟨b, p, none⟩) (n) (c), .string (s)] w fun e w' => e = .returned (.tuple #[.int .i64 (ofM f n s).1, .int .i64 (ofM f n s).2]) ∧ Below w.heap.size w w' := by
  refine calls_begin Try.func7 rfl 19 rfl (Nat.le_of_ble_eq_true rfl) [(0, .slice (some ⟨b, p, none⟩) (n) (c)), (1, .string (s))] ⟨rfl, rfl, trivial⟩ (fun a0 he0 hm0 => ?_)
  refine wp_seqR ?_
  refine wl_val he0 rfl rfl (.int .i64 (0)) (rn_move _ (Or.inr rfl) _ rfl) (fun a1 he1 => ?_)
  clear he0
  refine wl_val he1 rfl rfl (.int .i64 (0)) (rn_move _ (Or.inr rfl) _ rfl) (fun a2 he2 => ?_)
  clear he1
  refine wl_end ?_
  refine wp_seq ?_
  refine wp_seqR ?_
  refine wl_val he2 rfl rfl (.slice (some ⟨b, p, none⟩) (n) (c)) (rn_move _ (Or.inl rfl) _ (he2.tmp 0 _ rfl)) (fun a3 he3 => ?_)
  clear he2
  cases hd1 : (ruOks f n)
  ·
   refine wl_call he3 hm0 rfl rfl _ #[.slice (some ⟨b, p, none⟩) (n) (c)] (enter_call _ _ _ rfl 18 #[] #[] rfl #[.slice (some ⟨b, p, none⟩) (n) (c)] (map1 (he3.tmp 6 _ rfl)) #[.slice (some ⟨b, p, none⟩) (n) (c)] rfl (fun _ _ => by kernel_rfl)) (.bool false) (callsV (congrArg Value.bool (hd1)) (c_oks f b p n c _ (hR.kb hm0.keep (by simp)) hn)) (fun a4 w1 he4 hm1 => ?_)
   clear he3 hm0
   refine wl_val he4 rfl rfl (.bool true) (rn_un _ _ _ rfl _ (.bool (!false)) _ (he4.tmp 7 _ rfl) rfl rfl) (fun a5 he5 => ?_)
   clear he4
   refine wl_val he5 rfl rfl (.bool true) (rn_move _ (Or.inl rfl) _ (he5.tmp 8 _ rfl)) (fun a6 he6 => ?_)
   clear he5
   refine wl_not he6 rfl (wanted_slot he6 3 false rfl 9 rfl true rfl false rfl) (fun a7 he7 => ?_)
   clear he6
   refine wl_not he7 rfl (wanted_slot he7 3 false rfl 9 rfl true rfl false rfl) (fun a8 he8 => ?_)
   clear he7
   refine wl_not he8 rfl (wanted_slot he8 3 false rfl 9 rfl true rfl false rfl) (fun a9 he9 => ?_)
   clear he8
   refine wl_val he9 rfl rfl (.bool true) (rn_pickT _ _ _ rfl (he9.tmp 9 _ rfl) _ rfl) (fun a10 he10 => ?_)
   clear he9
   refine wl_end ?_
   refine wp_condT (he := he10) rfl ?_
   refine wp_seqR ?_
   refine wl_val he10 rfl rfl (.int .i64 ((-1))) (rn_move _ (Or.inr rfl) _ rfl) (fun a11 he11 => ?_)
   clear he10
   refine wl_val he11 rfl rfl (.int .i64 (0)) (rn_move _ (Or.inr rfl) _ rfl) (fun a12 he12 => ?_)
   clear he11
   refine wl_end ?_
   refine wp_ret ?_
   refine ret_then ?_
   exact bodyPost_ret (results_tmp2 he12 _ _ Try.results7 _ _ rfl rfl) he12.defers ⟨(by first | rw [ofM_no (by assumption)] | rw [ofM_no2 (by omega)] | rw [ofM_yes hd1 (by omega)]), hm1.below⟩
  ·
   refine wl_call he3 hm0 rfl rfl _ #[.slice (some ⟨b, p, none⟩) (n) (c)] (enter_call _ _ _ rfl 18 #[] #[] rfl #[.slice (some ⟨b, p, none⟩) (n) (c)] (map1 (he3.tmp 6 _ rfl)) #[.slice (some ⟨b, p, none⟩) (n) (c)] rfl (fun _ _ => by kernel_rfl)) (.bool true) (callsV (congrArg Value.bool (hd1)) (c_oks f b p n c _ (hR.kb hm0.keep (by simp)) hn)) (fun a4 w1 he4 hm1 => ?_)
   clear he3 hm0
   refine wl_val he4 rfl rfl (.bool false) (rn_un _ _ _ rfl _ (.bool (!true)) _ (he4.tmp 7 _ rfl) rfl rfl) (fun a5 he5 => ?_)
   clear he4
   refine wl_val he5 rfl rfl (.bool false) (rn_move _ (Or.inl rfl) _ (he5.tmp 8 _ rfl)) (fun a6 he6 => ?_)
   clear he5
   refine wl_val he6 rfl (wanted_slot he6 3 false rfl 9 rfl false rfl true rfl) (.string (s)) (rn_move _ (Or.inl rfl) _ (he6.tmp 1 _ rfl)) (fun a7 he7 => ?_)
   clear he6
   refine wl_val he7 rfl (wanted_slot he7 3 false rfl 9 rfl false rfl true rfl) (.int .i64 ((((s).size : Nat) : Int))) (rn_builtin _ _ _ rfl #[.string (s)] (map1 (he7.tmp 10 _ rfl)) (.int .i64 ((((s).size : Nat) : Int))) (by kernel_rfl)) (fun a8 he8 => ?_)
   clear he7
   cases hd2 : (((((s).size : Nat) : Int) != 12))
   ·
    have hd2p : (((s).size : Nat) : Int) = 12 := by simpa using hd2
    refine wl_val he8 rfl (wanted_slot he8 3 false rfl 9 rfl false rfl true rfl) (.bool false) (rn_bin _ _ _ _ _ rfl .i64 _ _ (he8.tmp 11 _ rfl) rfl (.bool (((((s).size : Nat) : Int) != 12))) _ rfl (congrArg Value.bool (hd2))) (fun a9 he9 => ?_)
    clear he8
    refine wl_val he9 rfl rfl (.bool false) (rn_pickF _ _ _ rfl (he9.tmp 9 _ rfl) _ (he9.tmp 12 _ rfl)) (fun a10 he10 => ?_)
    clear he9
    refine wl_end ?_
    refine wp_condF (he := he10) rfl ?_
    refine wp_skip ?_
    refine then_normal ?_
    refine wp_seqR ?_
    refine wl_val he10 rfl rfl (.slice (some ⟨b, p, none⟩) (n) (c)) (rn_move _ (Or.inl rfl) _ (he10.tmp 0 _ rfl)) (fun a11 he11 => ?_)
    clear he10
    refine wl_val he11 rfl rfl (.string (s)) (rn_move _ (Or.inl rfl) _ (he11.tmp 1 _ rfl)) (fun a12 he12 => ?_)
    clear he11
    refine wl_call he12 hm1 rfl rfl _ #[.slice (some ⟨b, p, none⟩) (n) (c), .string (s)] (enter_call _ _ _ rfl 19 #[] #[] rfl #[.slice (some ⟨b, p, none⟩) (n) (c), .string (s)] (map2 (he12.tmp 14 _ rfl) (he12.tmp 15 _ rfl)) #[.slice (some ⟨b, p, none⟩) (n) (c), .string (s)] rfl (fun _ _ => by kernel_rfl)) (.tuple #[.int .i64 ((ofR f s n 0).1), .int .i64 ((ofR f s n 0).2)]) (c_l9Of f b p n c s _ (hR.kb hm1.keep (by simp)) hn (ruOks_all hd1).1 hd2p) (fun a13 w2 he13 hm2 => ?_)
    clear he12 hm1
    refine wl_val he13 rfl rfl (.int .i64 ((ofR f s n 0).1)) (rn_extract _ _ rfl _ (he13.tmp 16 _ rfl) _ rfl) (fun a14 he14 => ?_)
    clear he13
    refine wl_val he14 rfl rfl (.int .i64 ((ofR f s n 0).2)) (rn_extract _ _ rfl _ (he14.tmp 16 _ rfl) _ rfl) (fun a15 he15 => ?_)
    clear he14
    refine wl_val he15 rfl rfl (.int .i64 ((ofR f s n 0).1)) (rn_move _ (Or.inr rfl) _ (he15.tmp 17 _ rfl)) (fun a16 he16 => ?_)
    clear he15
    refine wl_val he16 rfl rfl (.int .i64 ((ofR f s n 0).2)) (rn_move _ (Or.inr rfl) _ (he16.tmp 18 _ rfl)) (fun a17 he17 => ?_)
    clear he16
    refine wl_end ?_
    refine wp_ret ?_
    exact bodyPost_ret (results_tmp2 he17 _ _ Try.results7 _ _ rfl rfl) he17.defers ⟨(by first | rw [ofM_no (by assumption)] | rw [ofM_no2 (by omega)] | rw [ofM_yes hd1 (by omega)]), hm2.below⟩
   ·
    have hd2p : (((s).size : Nat) : Int) ≠ 12 := by simpa using hd2
    refine wl_val he8 rfl (wanted_slot he8 3 false rfl 9 rfl false rfl true rfl) (.bool true) (rn_bin _ _ _ _ _ rfl .i64 _ _ (he8.tmp 11 _ rfl) rfl (.bool (((((s).size : Nat) : Int) != 12))) _ rfl (congrArg Value.bool (hd2))) (fun a9 he9 => ?_)
    clear he8
    refine wl_val he9 rfl rfl (.bool true) (rn_pickF _ _ _ rfl (he9.tmp 9 _ rfl) _ (he9.tmp 12 _ rfl)) (fun a10 he10 => ?_)
    clear he9
    refine wl_end ?_
    refine wp_condT (he := he10) rfl ?_
    refine wp_seqR ?_
    refine wl_val he10 rfl rfl (.int .i64 ((-1))) (rn_move _ (Or.inr rfl) _ rfl) (fun a11 he11 => ?_)
    clear he10
    refine wl_val he11 rfl rfl (.int .i64 (0)) (rn_move _ (Or.inr rfl) _ rfl) (fun a12 he12 => ?_)
    clear he11
    refine wl_end ?_
    refine wp_ret ?_
    refine ret_then ?_
    exact bodyPost_ret (results_tmp2 he12 _ _ Try.results7 _ _ rfl rfl) he12.defers ⟨(by first | rw [ofM_no (by assumption)] | rw [ofM_no2 (by omega)] | rw [ofM_yes hd1 (by omega)]), hm1.below⟩
end Go.Proofs.Ytkaekiodjjhjkaa.W
namespace Go.Proofs.Ytkaekiodjjhjkaa.W
open Go.RowKit
set_option linter.unusedVariables false
set_option linter.unusedSimpArgs false
theorem RuSz (r : Ru) : r.arr.size = 5 := rfl
structure RuX where
  L : List Ru
  cap : Nat
  cur : Array Value
  q : Nat
set_option maxRecDepth 100000 in
set_option maxHeartbeats 4000000 in
theorem d_rules {w0 : World} {B : Nat} {a : Option Addr} {len cap p : Nat} (w : World) (h : RS w0 w B a len cap p) (hp : p ≤ 100000) :
    Calls Try.prog 15 #[.pointer (some ⟨B, 0, none⟩)] w fun e w' => DrawsN w B (fun (x : RuX) b => .slice (some ⟨b, 0, none⟩) x.L.length x.cap) 30 (fun x => x.cur) 67 (fun x => rdA a len cap x.q) (fun x => Rw x.cur x.L.length x.cap 5 (cellsOf Ru.arr x.L) ∧ x.L.length ≤ 6 ∧ x.q ≤ p + 40) e w' := by
  refine calls_begin Try.func15 rfl 84 rfl (Nat.le_of_ble_eq_true rfl) [(0, .pointer (some ⟨B, 0, none⟩))] ⟨rfl, trivial⟩ (fun a0 he0 hm0 => ?_)
  have hm1 := MM.start1 (w := w) 1 h.bx
  clear hm0
  refine wp_seqR ?_
  refine wl_val he0 rfl rfl (.slice none 0 0) (rn_move _ (Or.inr rfl) _ rfl) (fun a1 he1 => ?_)
  clear he0
  refine wl_end ?_
  refine wp_seqR ?_
  refine wl_buildSlice he1 hm1 2 rfl rfl rfl _ _ _ rfl #[] (pmap0 _) 30 ((cellsOf Ru.arr []).toArray) (by kernel_rfl) (fun a2 w2 b2 he2 hm2 => ?_)
  clear he1 hm1
  have rw2_0 : Rw ((cellsOf Ru.arr []).toArray) 0 0 5 (cellsOf Ru.arr ([])) := Rw.lits RuSz [] (by simp [maxLen])
  refine wl_val he2 rfl rfl (.slice (some ⟨b2, 0, none⟩) (0) (0)) (rn_move _ (Or.inr rfl) _ (he2.tmp 7 _ rfl)) (fun a3 he3 => ?_)
  clear he2
  refine wl_end ?_
  refine wp_seq ?_
  refine wp_seqR ?_
  refine wl_val he3 rfl rfl (.pointer (some ⟨B, 0, none⟩)) (rn_move _ (Or.inl rfl) _ (he3.tmp 0 _ rfl)) (fun a4 he4 => ?_)
  clear he3
  refine wl_buildSlice he4 hm2 3 rfl rfl rfl _ _ _ rfl #[(0, .int .i64 (0)), (1, .int .i64 (1)), (2, .int .i64 (2)), (3, .int .i64 (3)), (4, .int .i64 (4)), (5, .int .i64 (6))] (by kernel_rfl) 3 (#[.int .i64 (0), .int .i64 (1), .int .i64 (2), .int .i64 (3), .int .i64 (4), .int .i64 (6)]) (by kernel_rfl) (fun a5 w3 b3 he5 hm3 => ?_)
  clear he4 hm2
  refine wl_callD he5 hm3 1 rfl rfl rfl _ #[.pointer (some ⟨B, 0, none⟩), .slice (some ⟨b3, 0, none⟩) (6) (6)] (enter_call _ _ _ rfl 28 #[] #[] rfl #[.pointer (some ⟨B, 0, none⟩), .slice (some ⟨b3, 0, none⟩) (6) (6)] (map2 (he5.tmp 8 _ rfl) (he5.tmp 9 _ rfl)) #[.pointer (some ⟨B, 0, none⟩), .slice (some ⟨b3, 0, none⟩) (6) (6)] rfl (fun _ _ => by kernel_rfl)) (d_one (h.kb hm3.keep (hm3.bx 1 _ _ _ _ rfl)) (by omega) b3 [0, 1, 2, 3, 4, 6] _ (hm3.bx 3 _ _ _ _ rfl) rfl (hm3.apart 3 1 _ _ rfl rfl (by decide) rfl) (by decide) (by decide) _ rfl) (fun d1 a6 w4 hd1 he6 hm4 => ?_)
  clear he5 hm3
  have hd1b : 0 ≤ d1 ∧ d1 ≤ 4294967295 := by simp at hd1; omega
  obtain ⟨d1n, rfl⟩ := Int.eq_ofNat_of_zero_le hd1b.1
  have hd1c : d1n ≤ 6 := by simp at hd1; omega
  refine wl_val he6 rfl rfl (.int .i64 (((d1n : Nat) : Int))) (rn_move _ (Or.inr rfl) _ (he6.tmp 10 _ rfl)) (fun a7 he7 => ?_)
  clear he6
  refine wl_end ?_
  refine wp_block ?_
  refine wp_loopN (fun mz az wz => ∃ (k : Nat), ∃ (o : List Ru), ∃ (on : Nat), ∃ (ob : Nat), ∃ (oc : Nat), ∃ (oa : Array Value), ∃ (q : Nat), mz = 1 * k ∧ (on = (o).length ∧ on + k ≤ 6 ∧ Rw (oa) (on) (oc) 5 (cellsOf Ru.arr (o)) ∧ q + 5 * k ≤ p + 31) ∧ EV az 84 [] [(0, .pointer (some ⟨B, 0, none⟩)), (2, .slice none 0 0), (7, .slice (some ⟨b2, 0, none⟩) (0) (0)), (8, .pointer (some ⟨B, 0, none⟩)), (9, .slice (some ⟨b3, 0, none⟩) (6) (6)), (10, .int .i64 (((d1n : Nat) : Int))), (4, .int .i64 (((k : Nat) : Int))), (3, .slice (some ⟨ob, 0, none⟩) (on) (oc))] ∧ MM [B] w wz [(1, ⟨true, B, 67, rdA a len cap (q)⟩), (2, ⟨true, ob, 30, oa⟩), (3, ⟨true, b3, 3, #[.int .i64 (0), .int .i64 (1), .int .i64 (2), .int .i64 (3), .int .i64 (4), .int .i64 (6)]⟩)]) ⟨_, d1n, [], 0, b2, 0, (cellsOf Ru.arr []).toArray, p + 1, rfl, ⟨rfl, by omega, rw2_0, by omega⟩, he7.sub _ ⟨rfl, rfl, rfl, rfl, rfl, rfl, rfl, rfl, trivial⟩, hm4.sub _ ⟨rfl, rfl, rfl, trivial⟩⟩ ?_
  rintro mz1 a8 w5 ⟨k, o, on, ob, oc, oa, q, rfl, hrel1, he8, hm5⟩
  clear he7 hm4
  obtain ⟨hon, hon6, horw, hq⟩ := hrel1
  refine wp_seq ?_
  refine wp_seqR ?_
  refine wl_val he8 rfl rfl (.int .i64 (((k : Nat) : Int))) (rn_move _ (Or.inl rfl) _ (he8.tmp 4 _ rfl)) (fun a9 he9 => ?_)
  clear he8
  cases hd1 : (decide (((k : Nat) : Int) > 0))
  ·
   have hd1p := of_decide_eq_false hd1
   refine wl_val he9 rfl rfl (.bool false) (rn_bin _ _ _ _ _ rfl .i64 _ _ (he9.tmp 11 _ rfl) rfl (.bool (decide (((k : Nat) : Int) > 0))) _ rfl (congrArg Value.bool (hd1))) (fun a10 he10 => ?_)
   clear he9
   refine wl_end ?_
   refine wp_condF (he := he10) rfl ?_
   refine wp_exit ?_
   refine exit_then ?_
   refine exit_then ?_
   refine exit_here ?_
   refine then_normal ?_
   refine wp_seq ?_
   refine wp_seqR ?_
   refine wl_val he10 rfl rfl (.slice (some ⟨ob, 0, none⟩) (on) (oc)) (rn_move _ (Or.inl rfl) _ (he10.tmp 3 _ rfl)) (fun a11 he11 => ?_)
   clear he10
   refine wl_val he11 rfl rfl (.int .i64 (((on : Nat) : Int))) (rn_builtin _ _ _ rfl #[.slice (some ⟨ob, 0, none⟩) (on) (oc)] (map1 (he11.tmp 38 _ rfl)) (.int .i64 (((on : Nat) : Int))) (by kernel_rfl)) (fun a12 he12 => ?_)
   clear he11
   cases hd2 : (decide (((on : Nat) : Int) > 0))
   ·
    have hd2p := of_decide_eq_false hd2
    refine wl_val he12 rfl rfl (.bool false) (rn_bin _ _ _ _ _ rfl .i64 _ _ (he12.tmp 39 _ rfl) rfl (.bool (decide (((on : Nat) : Int) > 0))) _ rfl (congrArg Value.bool (hd2))) (fun a13 he13 => ?_)
    clear he12
    refine wl_val he13 rfl rfl (.bool false) (rn_move _ (Or.inl rfl) _ (he13.tmp 40 _ rfl)) (fun a14 he14 => ?_)
    clear he13
    refine wl_not he14 rfl (wanted_slot he14 3 true rfl 41 rfl false rfl false rfl) (fun a15 he15 => ?_)
    clear he14
    refine wl_not he15 rfl (wanted_slot he15 3 true rfl 41 rfl false rfl false rfl) (fun a16 he16 => ?_)
    clear he15
    refine wl_not he16 rfl (wanted_slot he16 3 true rfl 41 rfl false rfl false rfl) (fun a17 he17 => ?_)
    clear he16
    refine wl_val he17 rfl rfl (.bool false) (rn_pickF _ _ _ rfl (he17.tmp 41 _ rfl) _ rfl) (fun a18 he18 => ?_)
    clear he17
    refine wl_end ?_
    refine wp_condF (he := he18) rfl ?_
    refine wp_skip ?_
    refine then_normal ?_
    refine wp_seqR ?_
    refine wl_val he18 rfl rfl (.slice (some ⟨ob, 0, none⟩) (on) (oc)) (rn_move _ (Or.inl rfl) _ (he18.tmp 3 _ rfl)) (fun a19 he19 => ?_)
    clear he18
    refine wl_val he19 rfl rfl (.slice (some ⟨ob, 0, none⟩) (on) (oc)) (rn_move _ (Or.inr rfl) _ (he19.tmp 83 _ rfl)) (fun a20 he20 => ?_)
    clear he19
    refine wl_end ?_
    refine wp_ret ?_
    have hN : on = (o).length := by simp [hon]
    exact bodyPost_ret (results_tmp he20 _ Try.results15 _ rfl) he20.defers ⟨⟨o, oc, oa, q⟩, _, congrArg (fun k => Ending.returned (.slice (some ⟨ob, 0, none⟩) k (oc))) hN, ⟨horw.cast hN rfl, by show (o).length ≤ 6; omega, by show q ≤ p + 40; omega⟩, hm5.bx 2 _ _ _ _ rfl, by have h1 := hm5.own 2 _ rfl rfl; have h2 := hm5.apart 2 1 _ _ rfl rfl (by decide) rfl; exact h1.resolve_right (fun hb => h2 (by simpa using hb)), hm5.keep, hm5.bx 1 _ _ _ _ rfl⟩
   ·
    have hd2p := of_decide_eq_true hd2
    refine wl_val he12 rfl rfl (.bool true) (rn_bin _ _ _ _ _ rfl .i64 _ _ (he12.tmp 39 _ rfl) rfl (.bool (decide (((on : Nat) : Int) > 0))) _ rfl (congrArg Value.bool (hd2))) (fun a13 he13 => ?_)
    clear he12
    refine wl_val he13 rfl rfl (.bool true) (rn_move _ (Or.inl rfl) _ (he13.tmp 40 _ rfl)) (fun a14 he14 => ?_)
    clear he13
    refine wl_val he14 rfl (wanted_slot he14 3 true rfl 41 rfl true rfl true rfl) (.pointer (some ⟨B, 0, none⟩)) (rn_move _ (Or.inl rfl) _ (he14.tmp 0 _ rfl)) (fun a15 he15 => ?_)
    clear he14
    refine wl_callD he15 hm5 1 rfl rfl (wanted_slot he15 3 true rfl 41 rfl true rfl true rfl) _ #[.pointer (some ⟨B, 0, none⟩), .int .i64 (12)] (enter_call _ _ _ rfl 29 #[] #[] rfl #[.pointer (some ⟨B, 0, none⟩), .int .i64 (12)] (map2 (he15.tmp 42 _ rfl) rfl) #[.pointer (some ⟨B, 0, none⟩), .int .i64 (12)] rfl (fun _ _ => by kernel_rfl)) (d_pick (h.kb hm5.keep (hm5.bx 1 _ _ _ _ rfl)) (by omega) 12 (by omega) (by omega)) (fun d2 a16 w6 hd2 he16 hm6 => ?_)
    clear he15 hm5
    cases hd3 : ((((d2 : Nat) : Int) == 0))
    ·
     have hd3p : ((d2 : Nat) : Int) ≠ 0 := by simpa using hd3
     refine wl_val he16 rfl (wanted_slot he16 3 true rfl 41 rfl true rfl true rfl) (.bool false) (rn_bin _ _ _ _ _ rfl .i64 _ _ (he16.tmp 43 _ rfl) rfl (.bool ((((d2 : Nat) : Int) == 0))) _ rfl (congrArg Value.bool (hd3))) (fun a17 he17 => ?_)
     clear he16
     refine wl_val he17 rfl rfl (.bool false) (rn_pickT _ _ _ rfl (he17.tmp 41 _ rfl) _ (he17.tmp 44 _ rfl)) (fun a18 he18 => ?_)
     clear he17
     refine wl_end ?_
     refine wp_condF (he := he18) rfl ?_
     refine wp_skip ?_
     refine then_normal ?_
     refine wp_seqR ?_
     refine wl_val he18 rfl rfl (.slice (some ⟨ob, 0, none⟩) (on) (oc)) (rn_move _ (Or.inl rfl) _ (he18.tmp 3 _ rfl)) (fun a19 he19 => ?_)
     clear he18
     refine wl_val he19 rfl rfl (.slice (some ⟨ob, 0, none⟩) (on) (oc)) (rn_move _ (Or.inr rfl) _ (he19.tmp 83 _ rfl)) (fun a20 he20 => ?_)
     clear he19
     refine wl_end ?_
     refine wp_ret ?_
     have hN : on = (o).length := by simp [hon]
     exact bodyPost_ret (results_tmp he20 _ Try.results15 _ rfl) he20.defers ⟨⟨o, oc, oa, q + 1⟩, _, congrArg (fun k => Ending.returned (.slice (some ⟨ob, 0, none⟩) k (oc))) hN, ⟨horw.cast hN rfl, by show (o).length ≤ 6; omega, by show q + 1 ≤ p + 40; omega⟩, hm6.bx 2 _ _ _ _ rfl, by have h1 := hm6.own 2 _ rfl rfl; have h2 := hm6.apart 2 1 _ _ rfl rfl (by decide) rfl; exact h1.resolve_right (fun hb => h2 (by simpa using hb)), hm6.keep, hm6.bx 1 _ _ _ _ rfl⟩
    ·
     have hd3p : ((d2 : Nat) : Int) = 0 := by simpa using hd3
     refine wl_val he16 rfl (wanted_slot he16 3 true rfl 41 rfl true rfl true rfl) (.bool true) (rn_bin _ _ _ _ _ rfl .i64 _ _ (he16.tmp 43 _ rfl) rfl (.bool ((((d2 : Nat) : Int) == 0))) _ rfl (congrArg Value.bool (hd3))) (fun a17 he17 => ?_)
     clear he16
     refine wl_val he17 rfl rfl (.bool true) (rn_pickT _ _ _ rfl (he17.tmp 41 _ rfl) _ (he17.tmp 44 _ rfl)) (fun a18 he18 => ?_)
     clear he17
     refine wl_end ?_
     refine wp_condT (he := he18) rfl ?_
     refine wp_seqR ?_
     refine wl_val he18 rfl rfl (.pointer (some ⟨B, 0, none⟩)) (rn_move _ (Or.inl rfl) _ (he18.tmp 0 _ rfl)) (fun a19 he19 => ?_)
     clear he18
     refine wl_val he19 rfl rfl (.slice (some ⟨ob, 0, none⟩) (on) (oc)) (rn_move _ (Or.inl rfl) _ (he19.tmp 3 _ rfl)) (fun a20 he20 => ?_)
     clear he19
     refine wl_val he20 rfl rfl (.int .i64 (((on : Nat) : Int))) (rn_builtin _ _ _ rfl #[.slice (some ⟨ob, 0, none⟩) (on) (oc)] (map1 (he20.tmp 47 _ rfl)) (.int .i64 (((on : Nat) : Int))) (by kernel_rfl)) (fun a21 he21 => ?_)
     clear he20
     refine wl_callD he21 hm6 1 rfl rfl rfl _ #[.pointer (some ⟨B, 0, none⟩), .int .i64 (((on : Nat) : Int))] (enter_call _ _ _ rfl 29 #[] #[] rfl #[.pointer (some ⟨B, 0, none⟩), .int .i64 (((on : Nat) : Int))] (map2 (he21.tmp 46 _ rfl) (he21.tmp 48 _ rfl)) #[.pointer (some ⟨B, 0, none⟩), .int .i64 (((on : Nat) : Int))] rfl (fun _ _ => by kernel_rfl)) (d_pick (h.kb hm6.keep (hm6.bx 1 _ _ _ _ rfl)) (by omega) on (by omega) (by omega)) (fun d3 a22 w7 hd3 he22 hm7 => ?_)
     clear he21 hm6
     refine wl_val he22 rfl rfl (.int .i64 (((d3 : Nat) : Int))) (rn_move _ (Or.inr rfl) _ (he22.tmp 49 _ rfl)) (fun a23 he23 => ?_)
     clear he22
     refine wl_end ?_
     refine wp_seqR ?_
     refine wl_val he23 rfl rfl (.pointer (some ⟨B, 0, none⟩)) (rn_move _ (Or.inl rfl) _ (he23.tmp 0 _ rfl)) (fun a24 he24 => ?_)
     clear he23
     refine wl_callD he24 hm7 1 rfl rfl rfl _ #[.pointer (some ⟨B, 0, none⟩), .int .i64 (4)] (enter_call _ _ _ rfl 29 #[] #[] rfl #[.pointer (some ⟨B, 0, none⟩), .int .i64 (4)] (map2 (he24.tmp 50 _ rfl) rfl) #[.pointer (some ⟨B, 0, none⟩), .int .i64 (4)] rfl (fun _ _ => by kernel_rfl)) (d_pick (h.kb hm7.keep (hm7.bx 1 _ _ _ _ rfl)) (by omega) 4 (by omega) (by omega)) (fun d4 a25 w8 hd4 he25 hm8 => ?_)
     clear he24 hm7
     refine wl_end ?_
     refine wp_block ?_
     refine wp_seqR ?_
     cases hd4 : ((((d4 : Nat) : Int) == 0))
     ·
      have hd4p : ((d4 : Nat) : Int) ≠ 0 := by simpa using hd4
      refine wl_val he25 rfl rfl (.bool false) (rn_bin _ _ _ _ _ rfl .i64 _ _ (he25.tmp 51 _ rfl) rfl (.bool ((((d4 : Nat) : Int) == 0))) _ rfl (congrArg Value.bool (hd4))) (fun a26 he26 => ?_)
      clear he25
      refine wl_val he26 rfl rfl (.bool false) (rn_move _ (Or.inr rfl) _ (he26.tmp 57 _ rfl)) (fun a27 he27 => ?_)
      clear he26
      refine wl_end ?_
      refine wp_condF (he := he27) rfl ?_
      refine wp_seqR ?_
      cases hd5 : ((((d4 : Nat) : Int) == 1))
      ·
       have hd5p : ((d4 : Nat) : Int) ≠ 1 := by simpa using hd5
       refine wl_val he27 rfl rfl (.bool false) (rn_bin _ _ _ _ _ rfl .i64 _ _ (he27.tmp 51 _ rfl) rfl (.bool ((((d4 : Nat) : Int) == 1))) _ rfl (congrArg Value.bool (hd5))) (fun a28 he28 => ?_)
       clear he27
       refine wl_val he28 rfl rfl (.bool false) (rn_move _ (Or.inr rfl) _ (he28.tmp 66 _ rfl)) (fun a29 he29 => ?_)
       clear he28
       refine wl_end ?_
       refine wp_condF (he := he29) rfl ?_
       refine wp_seqR ?_
       cases hd6 : ((((d4 : Nat) : Int) == 2))
       ·
        have hd6p : ((d4 : Nat) : Int) ≠ 2 := by simpa using hd6
        refine wl_val he29 rfl rfl (.bool false) (rn_bin _ _ _ _ _ rfl .i64 _ _ (he29.tmp 51 _ rfl) rfl (.bool ((((d4 : Nat) : Int) == 2))) _ rfl (congrArg Value.bool (hd6))) (fun a30 he30 => ?_)
        clear he29
        refine wl_val he30 rfl rfl (.bool false) (rn_move _ (Or.inr rfl) _ (he30.tmp 75 _ rfl)) (fun a31 he31 => ?_)
        clear he30
        refine wl_end ?_
        refine wp_condF (he := he31) rfl ?_
        refine wp_region_lit ?_
        refine wl_val he31 rfl rfl (.slice (some ⟨ob, 0, none⟩) (on) (oc)) (rn_move _ (Or.inl rfl) _ (he31.tmp 3 _ rfl)) (fun a32 he32 => ?_)
        clear he31
        refine wl_val he32 rfl rfl (.int .i64 (((d3 : Nat) : Int))) (rn_move _ (Or.inl rfl) _ (he32.tmp 6 _ rfl)) (fun a33 he33 => ?_)
        clear he32
        refine wl_val he33 rfl rfl (.pointer (some ⟨ob, 0 + d3 * 5, none⟩)) (rn_indexA _ _ _ rfl _ _ (.pointer (some ⟨ob, 0 + d3 * 5, none⟩)) (he33.tmp 52 _ rfl) (he33.tmp 53 _ rfl) (ixS 30 5 (by kernel_rfl) (fun w => by kernel_rfl) (ob) (0) (on) (oc) (d3) (by omega) _)) (fun a34 he34 => ?_)
        clear he33
        refine wl_val he34 rfl rfl (.pointer (some ⟨ob, 0 + d3 * 5 + 4, none⟩)) (rn_field _ _ _ rfl _ (.pointer (some ⟨ob, 0 + d3 * 5 + 4, none⟩)) (he34.tmp 54 _ rfl) (by kernel_rfl)) (fun a35 he35 => ?_)
        clear he34
        have hkq1 : d3 < (o).length := by omega
        obtain ⟨q1, hq1⟩ : ∃ q1 : Array Value, q1 = ovw (oa) (0 + d3 * 5 + 4) [.int .i64 (5)] := ⟨_, rfl⟩
        obtain ⟨yq1, hyq1⟩ : ∃ yq1 : Ru, yq1 = { (o)[d3]'hkq1 with key := 5 } := ⟨_, rfl⟩
        have rq1 : Rw q1 on oc 5 (cellsOf Ru.arr ((o).set (d3) yq1)) := by rw [hq1]; exact horw.set1 RuSz (f := 4) (y := yq1) (v := .int .i64 (5)) (List.getElem?_eq_getElem hkq1) (by omega) (by rw [hyq1]; rfl) (0 + d3 * 5 + 4) (by omega)
        have fq1 := horw.fit'
        refine wl_store he35 hm8 2 rfl rfl rfl _ _ _ rfl (0 + d3 * 5 + 4) (he35.tmp 55 _ rfl) _ rfl 1 one3.size rfl (by kernel_rfl) (by omega) (q1) (by rw [hq1]; rfl) (fun w9 hm9 => ?_)
        clear hm8
        refine wpList_nil ?_
        refine in_normal ?_
        refine then_normal ?_
        refine wp_seqR ?_
        refine wl_val he35 rfl rfl (.slice (some ⟨ob, 0, none⟩) (on) (oc)) (rn_move _ (Or.inl rfl) _ (he35.tmp 3 _ rfl)) (fun a36 he36 => ?_)
        clear he35
        refine wl_val he36 rfl rfl (.slice (some ⟨ob, 0, none⟩) (on) (oc)) (rn_move _ (Or.inr rfl) _ (he36.tmp 83 _ rfl)) (fun a37 he37 => ?_)
        clear he36
        refine wl_end ?_
        refine wp_ret ?_
        have hN : on = ((o).set (d3) yq1).length := by simp [hon]
        exact bodyPost_ret (results_tmp he37 _ Try.results15 _ rfl) he37.defers ⟨⟨(o).set (d3) yq1, oc, q1, q + 1 + 1 + 1⟩, _, congrArg (fun k => Ending.returned (.slice (some ⟨ob, 0, none⟩) k (oc))) hN, ⟨rq1.cast hN rfl, by show ((o).set (d3) yq1).length ≤ 6; omega, by show q + 1 + 1 + 1 ≤ p + 40; omega⟩, hm9.bx 2 _ _ _ _ rfl, by have h1 := hm9.own 2 _ rfl rfl; have h2 := hm9.apart 2 1 _ _ rfl rfl (by decide) rfl; exact h1.resolve_right (fun hb => h2 (by simpa using hb)), hm9.keep, hm9.bx 1 _ _ _ _ rfl⟩
       ·
        have hd6p : ((d4 : Nat) : Int) = 2 := by simpa using hd6
        refine wl_val he29 rfl rfl (.bool true) (rn_bin _ _ _ _ _ rfl .i64 _ _ (he29.tmp 51 _ rfl) rfl (.bool ((((d4 : Nat) : Int) == 2))) _ rfl (congrArg Value.bool (hd6))) (fun a30 he30 => ?_)
        clear he29
        refine wl_val he30 rfl rfl (.bool true) (rn_move _ (Or.inr rfl) _ (he30.tmp 75 _ rfl)) (fun a31 he31 => ?_)
        clear he30
        refine wl_end ?_
        refine wp_condT (he := he31) rfl ?_
        refine wp_region_lit ?_
        refine wl_val he31 rfl rfl (.slice (some ⟨ob, 0, none⟩) (on) (oc)) (rn_move _ (Or.inl rfl) _ (he31.tmp 3 _ rfl)) (fun a32 he32 => ?_)
        clear he31
        refine wl_val he32 rfl rfl (.int .i64 (((d3 : Nat) : Int))) (rn_move _ (Or.inl rfl) _ (he32.tmp 6 _ rfl)) (fun a33 he33 => ?_)
        clear he32
        refine wl_val he33 rfl rfl (.pointer (some ⟨B, 0, none⟩)) (rn_move _ (Or.inl rfl) _ (he33.tmp 0 _ rfl)) (fun a34 he34 => ?_)
        clear he33
        refine wl_buildSlice he34 hm8 4 rfl rfl rfl _ _ _ rfl #[(0, .int .i64 (11)), (1, .int .i64 (16))] (pmap2 rfl rfl) 3 (#[.int .i64 (11), .int .i64 (16)]) (by kernel_rfl) (fun a35 w9 b4 he35 hm9 => ?_)
        clear he34 hm8
        refine wl_callD he35 hm9 1 rfl rfl rfl _ #[.pointer (some ⟨B, 0, none⟩), .slice (some ⟨b4, 0, none⟩) (2) (2)] (enter_call _ _ _ rfl 28 #[] #[] rfl #[.pointer (some ⟨B, 0, none⟩), .slice (some ⟨b4, 0, none⟩) (2) (2)] (map2 (he35.tmp 78 _ rfl) (he35.tmp 79 _ rfl)) #[.pointer (some ⟨B, 0, none⟩), .slice (some ⟨b4, 0, none⟩) (2) (2)] rfl (fun _ _ => by kernel_rfl)) (d_one (h.kb hm9.keep (hm9.bx 1 _ _ _ _ rfl)) (by omega) b4 [11, 16] _ (hm9.bx 4 _ _ _ _ rfl) rfl (hm9.apart 4 1 _ _ rfl rfl (by decide) rfl) (by decide) (by decide) _ rfl) (fun d5 a36 w10 hd5 he36 hm10 => ?_)
        clear he35 hm9
        have hd5b : 0 ≤ d5 ∧ d5 ≤ 4294967295 := by simp at hd5; omega
        obtain ⟨d5n, rfl⟩ := Int.eq_ofNat_of_zero_le hd5b.1
        have hd5c : d5n ≤ 16 := by simp at hd5; omega
        refine wl_val he36 rfl rfl (.pointer (some ⟨ob, 0 + d3 * 5, none⟩)) (rn_indexA _ _ _ rfl _ _ (.pointer (some ⟨ob, 0 + d3 * 5, none⟩)) (he36.tmp 76 _ rfl) (he36.tmp 77 _ rfl) (ixS 30 5 (by kernel_rfl) (fun w => by kernel_rfl) (ob) (0) (on) (oc) (d3) (by omega) _)) (fun a37 he37 => ?_)
        clear he36
        refine wl_val he37 rfl rfl (.pointer (some ⟨ob, 0 + d3 * 5 + 1, none⟩)) (rn_field _ _ _ rfl _ (.pointer (some ⟨ob, 0 + d3 * 5 + 1, none⟩)) (he37.tmp 81 _ rfl) (by kernel_rfl)) (fun a38 he38 => ?_)
        clear he37
        have hkq1 : d3 < (o).length := by omega
        obtain ⟨q1, hq1⟩ : ∃ q1 : Array Value, q1 = ovw (oa) (0 + d3 * 5 + 1) [.int .i64 (((d5n : Nat) : Int))] := ⟨_, rfl⟩
        obtain ⟨yq1, hyq1⟩ : ∃ yq1 : Ru, yq1 = { (o)[d3]'hkq1 with op := ((d5n : Nat) : Int) } := ⟨_, rfl⟩
        have rq1 : Rw q1 on oc 5 (cellsOf Ru.arr ((o).set (d3) yq1)) := by rw [hq1]; exact horw.set1 RuSz (f := 1) (y := yq1) (v := .int .i64 (((d5n : Nat) : Int))) (List.getElem?_eq_getElem hkq1) (by omega) (by rw [hyq1]; rfl) (0 + d3 * 5 + 1) (by omega)
        have fq1 := horw.fit'
        refine wl_store he38 hm10 2 rfl rfl rfl _ _ _ rfl (0 + d3 * 5 + 1) (he38.tmp 82 _ rfl) _ (he38.tmp 80 _ rfl) 1 one3.size rfl (by kernel_rfl) (by omega) (q1) (by rw [hq1]; rfl) (fun w11 hm11 => ?_)
        clear hm10
        refine wpList_nil ?_
        refine in_normal ?_
        refine then_normal ?_
        refine wp_seqR ?_
        refine wl_val he38 rfl rfl (.slice (some ⟨ob, 0, none⟩) (on) (oc)) (rn_move _ (Or.inl rfl) _ (he38.tmp 3 _ rfl)) (fun a39 he39 => ?_)
        clear he38
        refine wl_val he39 rfl rfl (.slice (some ⟨ob, 0, none⟩) (on) (oc)) (rn_move _ (Or.inr rfl) _ (he39.tmp 83 _ rfl)) (fun a40 he40 => ?_)
        clear he39
        refine wl_end ?_
        refine wp_ret ?_
        have hN : on = ((o).set (d3) yq1).length := by simp [hon]
        exact bodyPost_ret (results_tmp he40 _ Try.results15 _ rfl) he40.defers ⟨⟨(o).set (d3) yq1, oc, q1, q + 1 + 1 + 1 + 1⟩, _, congrArg (fun k => Ending.returned (.slice (some ⟨ob, 0, none⟩) k (oc))) hN, ⟨rq1.cast hN rfl, by show ((o).set (d3) yq1).length ≤ 6; omega, by show q + 1 + 1 + 1 + 1 ≤ p + 40; omega⟩, hm11.bx 2 _ _ _ _ rfl, by have h1 := hm11.own 2 _ rfl rfl; have h2 := hm11.apart 2 1 _ _ rfl rfl (by decide) rfl; exact h1.resolve_right (fun hb => h2 (by simpa using hb)), hm11.keep, hm11.bx 1 _ _ _ _ rfl⟩
      ·
       have hd5p : ((d4 : Nat) : Int) = 1 := by simpa using hd5
       refine wl_val he27 rfl rfl (.bool true) (rn_bin _ _ _ _ _ rfl .i64 _ _ (he27.tmp 51 _ rfl) rfl (.bool ((((d4 : Nat) : Int) == 1))) _ rfl (congrArg Value.bool (hd5))) (fun a28 he28 => ?_)
       clear he27
       refine wl_val he28 rfl rfl (.bool true) (rn_move _ (Or.inr rfl) _ (he28.tmp 66 _ rfl)) (fun a29 he29 => ?_)
       clear he28
       refine wl_end ?_
       refine wp_condT (he := he29) rfl ?_
       refine wp_region_lit ?_
       refine wl_val he29 rfl rfl (.slice (some ⟨ob, 0, none⟩) (on) (oc)) (rn_move _ (Or.inl rfl) _ (he29.tmp 3 _ rfl)) (fun a30 he30 => ?_)
       clear he29
       refine wl_val he30 rfl rfl (.int .i64 (((d3 : Nat) : Int))) (rn_move _ (Or.inl rfl) _ (he30.tmp 6 _ rfl)) (fun a31 he31 => ?_)
       clear he30
       refine wl_val he31 rfl rfl (.pointer (some ⟨B, 0, none⟩)) (rn_move _ (Or.inl rfl) _ (he31.tmp 0 _ rfl)) (fun a32 he32 => ?_)
       clear he31
       refine wl_buildSlice he32 hm8 4 rfl rfl rfl _ _ _ rfl #[(0, .int .i64 ((-1))), (1, .int .i64 (256))] (pmap2 rfl rfl) 3 (#[.int .i64 ((-1)), .int .i64 (256)]) (by kernel_rfl) (fun a33 w9 b4 he33 hm9 => ?_)
       clear he32 hm8
       refine wl_callD he33 hm9 1 rfl rfl rfl _ #[.pointer (some ⟨B, 0, none⟩), .slice (some ⟨b4, 0, none⟩) (2) (2)] (enter_call _ _ _ rfl 28 #[] #[] rfl #[.pointer (some ⟨B, 0, none⟩), .slice (some ⟨b4, 0, none⟩) (2) (2)] (map2 (he33.tmp 69 _ rfl) (he33.tmp 70 _ rfl)) #[.pointer (some ⟨B, 0, none⟩), .slice (some ⟨b4, 0, none⟩) (2) (2)] rfl (fun _ _ => by kernel_rfl)) (d_one (h.kb hm9.keep (hm9.bx 1 _ _ _ _ rfl)) (by omega) b4 [(-1), 256] _ (hm9.bx 4 _ _ _ _ rfl) rfl (hm9.apart 4 1 _ _ rfl rfl (by decide) rfl) (by decide) (by decide) _ rfl) (fun d5 a34 w10 hd5 he34 hm10 => ?_)
       clear he33 hm9
       have hd5b : -1 ≤ d5 ∧ d5 ≤ 4294967295 := by simp at hd5; omega
       refine wl_val he34 rfl rfl (.pointer (some ⟨ob, 0 + d3 * 5, none⟩)) (rn_indexA _ _ _ rfl _ _ (.pointer (some ⟨ob, 0 + d3 * 5, none⟩)) (he34.tmp 67 _ rfl) (he34.tmp 68 _ rfl) (ixS 30 5 (by kernel_rfl) (fun w => by kernel_rfl) (ob) (0) (on) (oc) (d3) (by omega) _)) (fun a35 he35 => ?_)
       clear he34
       refine wl_val he35 rfl rfl (.pointer (some ⟨ob, 0 + d3 * 5 + 2, none⟩)) (rn_field _ _ _ rfl _ (.pointer (some ⟨ob, 0 + d3 * 5 + 2, none⟩)) (he35.tmp 72 _ rfl) (by kernel_rfl)) (fun a36 he36 => ?_)
       clear he35
       have hkq1 : d3 < (o).length := by omega
       obtain ⟨q1, hq1⟩ : ∃ q1 : Array Value, q1 = ovw (oa) (0 + d3 * 5 + 2) [.int .i64 (d5)] := ⟨_, rfl⟩
       obtain ⟨yq1, hyq1⟩ : ∃ yq1 : Ru, yq1 = { (o)[d3]'hkq1 with num := d5 } := ⟨_, rfl⟩
       have rq1 : Rw q1 on oc 5 (cellsOf Ru.arr ((o).set (d3) yq1)) := by rw [hq1]; exact horw.set1 RuSz (f := 2) (y := yq1) (v := .int .i64 (d5)) (List.getElem?_eq_getElem hkq1) (by omega) (by rw [hyq1]; rfl) (0 + d3 * 5 + 2) (by omega)
       have fq1 := horw.fit'
       refine wl_store he36 hm10 2 rfl rfl rfl _ _ _ rfl (0 + d3 * 5 + 2) (he36.tmp 73 _ rfl) _ (he36.tmp 71 _ rfl) 1 one3.size rfl (by kernel_rfl) (by omega) (q1) (by rw [hq1]; rfl) (fun w11 hm11 => ?_)
       clear hm10
       refine wpList_nil ?_
       refine in_normal ?_
       refine then_normal ?_
       refine wp_seqR ?_
       refine wl_val he36 rfl rfl (.slice (some ⟨ob, 0, none⟩) (on) (oc)) (rn_move _ (Or.inl rfl) _ (he36.tmp 3 _ rfl)) (fun a37 he37 => ?_)
       clear he36
       refine wl_val he37 rfl rfl (.slice (some ⟨ob, 0, none⟩) (on) (oc)) (rn_move _ (Or.inr rfl) _ (he37.tmp 83 _ rfl)) (fun a38 he38 => ?_)
       clear he37
       refine wl_end ?_
       refine wp_ret ?_
       have hN : on = ((o).set (d3) yq1).length := by simp [hon]
       exact bodyPost_ret (results_tmp he38 _ Try.results15 _ rfl) he38.defers ⟨⟨(o).set (d3) yq1, oc, q1, q + 1 + 1 + 1 + 1⟩, _, congrArg (fun k => Ending.returned (.slice (some ⟨ob, 0, none⟩) k (oc))) hN, ⟨rq1.cast hN rfl, by show ((o).set (d3) yq1).length ≤ 6; omega, by show q + 1 + 1 + 1 + 1 ≤ p + 40; omega⟩, hm11.bx 2 _ _ _ _ rfl, by have h1 := hm11.own 2 _ rfl rfl; have h2 := hm11.apart 2 1 _ _ rfl rfl (by decide) rfl; exact h1.resolve_right (fun hb => h2 (by simpa using hb)), hm11.keep, hm11.bx 1 _ _ _ _ rfl⟩
     ·
      have hd4p : ((d4 : Nat) : Int) = 0 := by simpa using hd4
      refine wl_val he25 rfl rfl (.bool true) (rn_bin _ _ _ _ _ rfl .i64 _ _ (he25.tmp 51 _ rfl) rfl (.bool ((((d4 : Nat) : Int) == 0))) _ rfl (congrArg Value.bool (hd4))) (fun a26 he26 => ?_)
      clear he25
      refine wl_val he26 rfl rfl (.bool true) (rn_move _ (Or.inr rfl) _ (he26.tmp 57 _ rfl)) (fun a27 he27 => ?_)
      clear he26
      refine wl_end ?_
      refine wp_condT (he := he27) rfl ?_
      refine wp_region_lit ?_
      refine wl_val he27 rfl rfl (.slice (some ⟨ob, 0, none⟩) (on) (oc)) (rn_move _ (Or.inl rfl) _ (he27.tmp 3 _ rfl)) (fun a28 he28 => ?_)
      clear he27
      refine wl_val he28 rfl rfl (.int .i64 (((d3 : Nat) : Int))) (rn_move _ (Or.inl rfl) _ (he28.tmp 6 _ rfl)) (fun a29 he29 => ?_)
      clear he28
      refine wl_val he29 rfl rfl (.pointer (some ⟨B, 0, none⟩)) (rn_move _ (Or.inl rfl) _ (he29.tmp 0 _ rfl)) (fun a30 he30 => ?_)
      clear he29
      refine wl_buildSlice he30 hm8 4 rfl rfl rfl _ _ _ rfl #[(0, .int .i64 ((-1))), (1, .int .i64 (12))] (pmap2 rfl rfl) 3 (#[.int .i64 ((-1)), .int .i64 (12)]) (by kernel_rfl) (fun a31 w9 b4 he31 hm9 => ?_)
      clear he30 hm8
      refine wl_callD he31 hm9 1 rfl rfl rfl _ #[.pointer (some ⟨B, 0, none⟩), .slice (some ⟨b4, 0, none⟩) (2) (2)] (enter_call _ _ _ rfl 28 #[] #[] rfl #[.pointer (some ⟨B, 0, none⟩), .slice (some ⟨b4, 0, none⟩) (2) (2)] (map2 (he31.tmp 60 _ rfl) (he31.tmp 61 _ rfl)) #[.pointer (some ⟨B, 0, none⟩), .slice (some ⟨b4, 0, none⟩) (2) (2)] rfl (fun _ _ => by kernel_rfl)) (d_one (h.kb hm9.keep (hm9.bx 1 _ _ _ _ rfl)) (by omega) b4 [(-1), 12] _ (hm9.bx 4 _ _ _ _ rfl) rfl (hm9.apart 4 1 _ _ rfl rfl (by decide) rfl) (by decide) (by decide) _ rfl) (fun d5 a32 w10 hd5 he32 hm10 => ?_)
      clear he31 hm9
      have hd5b : -1 ≤ d5 ∧ d5 ≤ 4294967295 := by simp at hd5; omega
      refine wl_val he32 rfl rfl (.pointer (some ⟨ob, 0 + d3 * 5, none⟩)) (rn_indexA _ _ _ rfl _ _ (.pointer (some ⟨ob, 0 + d3 * 5, none⟩)) (he32.tmp 58 _ rfl) (he32.tmp 59 _ rfl) (ixS 30 5 (by kernel_rfl) (fun w => by kernel_rfl) (ob) (0) (on) (oc) (d3) (by omega) _)) (fun a33 he33 => ?_)
      clear he32
      refine wl_val he33 rfl rfl (.pointer (some ⟨ob, 0 + d3 * 5, none⟩)) (rn_field _ _ _ rfl _ (.pointer (some ⟨ob, 0 + d3 * 5, none⟩)) (he33.tmp 63 _ rfl) (by kernel_rfl)) (fun a34 he34 => ?_)
      clear he33
      have hkq1 : d3 < (o).length := by omega
      obtain ⟨q1, hq1⟩ : ∃ q1 : Array Value, q1 = ovw (oa) (0 + d3 * 5) [.int .i64 (d5)] := ⟨_, rfl⟩
      obtain ⟨yq1, hyq1⟩ : ∃ yq1 : Ru, yq1 = { (o)[d3]'hkq1 with at_ := d5 } := ⟨_, rfl⟩
      have rq1 : Rw q1 on oc 5 (cellsOf Ru.arr ((o).set (d3) yq1)) := by rw [hq1]; exact horw.set1 RuSz (f := 0) (y := yq1) (v := .int .i64 (d5)) (List.getElem?_eq_getElem hkq1) (by omega) (by rw [hyq1]; rfl) (0 + d3 * 5) (by omega)
      have fq1 := horw.fit'
      refine wl_store he34 hm10 2 rfl rfl rfl _ _ _ rfl (0 + d3 * 5) (he34.tmp 64 _ rfl) _ (he34.tmp 62 _ rfl) 1 one3.size rfl (by kernel_rfl) (by omega) (q1) (by rw [hq1]; rfl) (fun w11 hm11 => ?_)
      clear hm10
      refine wpList_nil ?_
      refine in_normal ?_
      refine then_normal ?_
      refine wp_seqR ?_
      refine wl_val he34 rfl rfl (.slice (some ⟨ob, 0, none⟩) (on) (oc)) (rn_move _ (Or.inl rfl) _ (he34.tmp 3 _ rfl)) (fun a35 he35 => ?_)
      clear he34
      refine wl_val he35 rfl rfl (.slice (some ⟨ob, 0, none⟩) (on) (oc)) (rn_move _ (Or.inr rfl) _ (he35.tmp 83 _ rfl)) (fun a36 he36 => ?_)
      clear he35
      refine wl_end ?_
      refine wp_ret ?_
      have hN : on = ((o).set (d3) yq1).length := by simp [hon]
      exact bodyPost_ret (results_tmp he36 _ Try.results15 _ rfl) he36.defers ⟨⟨(o).set (d3) yq1, oc, q1, q + 1 + 1 + 1 + 1⟩, _, congrArg (fun k => Ending.returned (.slice (some ⟨ob, 0, none⟩) k (oc))) hN, ⟨rq1.cast hN rfl, by show ((o).set (d3) yq1).length ≤ 6; omega, by show q + 1 + 1 + 1 + 1 ≤ p + 40; omega⟩, hm11.bx 2 _ _ _ _ rfl, by have h1 := hm11.own 2 _ rfl rfl; have h2 := hm11.apart 2 1 _ _ rfl rfl (by decide) rfl; exact h1.resolve_right (fun hb => h2 (by simpa using hb)), hm11.keep, hm11.bx 1 _ _ _ _ rfl⟩
  ·
   have hd1p := of_decide_eq_true hd1
   refine wl_val he9 rfl rfl (.bool true) (rn_bin _ _ _ _ _ rfl .i64 _ _ (he9.tmp 11 _ rfl) rfl (.bool (decide (((k : Nat) : Int) > 0))) _ rfl (congrArg Value.bool (hd1))) (fun a10 he10 => ?_)
   clear he9
   refine wl_end ?_
   refine wp_condT (he := he10) rfl ?_
   refine wp_skip ?_
   refine then_normal ?_
   refine wp_seq ?_
   refine wp_block ?_
   refine wp_seqR ?_
   refine wl_val he10 rfl rfl (.pointer (some ⟨B, 0, none⟩)) (rn_move _ (Or.inl rfl) _ (he10.tmp 0 _ rfl)) (fun a11 he11 => ?_)
   clear he10
   refine wl_buildSlice he11 hm5 4 rfl rfl rfl _ _ _ rfl #[(0, .int .i64 (0)), (1, .int .i64 (0)), (2, .int .i64 (1)), (3, .int .i64 (2)), (4, .int .i64 (11))] (by kernel_rfl) 3 (#[.int .i64 (0), .int .i64 (0), .int .i64 (1), .int .i64 (2), .int .i64 (11)]) (by kernel_rfl) (fun a12 w6 b4 he12 hm6 => ?_)
   clear he11 hm5
   refine wl_callD he12 hm6 1 rfl rfl rfl _ #[.pointer (some ⟨B, 0, none⟩), .slice (some ⟨b4, 0, none⟩) (5) (5)] (enter_call _ _ _ rfl 28 #[] #[] rfl #[.pointer (some ⟨B, 0, none⟩), .slice (some ⟨b4, 0, none⟩) (5) (5)] (map2 (he12.tmp 15 _ rfl) (he12.tmp 16 _ rfl)) #[.pointer (some ⟨B, 0, none⟩), .slice (some ⟨b4, 0, none⟩) (5) (5)] rfl (fun _ _ => by kernel_rfl)) (d_one (h.kb hm6.keep (hm6.bx 1 _ _ _ _ rfl)) (by omega) b4 [0, 0, 1, 2, 11] _ (hm6.bx 4 _ _ _ _ rfl) rfl (hm6.apart 4 1 _ _ rfl rfl (by decide) rfl) (by decide) (by decide) _ rfl) (fun d2 a13 w7 hd2 he13 hm7 => ?_)
   clear he12 hm6
   have hd2b : 0 ≤ d2 ∧ d2 ≤ 4294967295 := by simp at hd2; omega
   obtain ⟨d2n, rfl⟩ := Int.eq_ofNat_of_zero_le hd2b.1
   have hd2c : d2n ≤ 11 := by simp at hd2; omega
   refine wl_val he13 rfl rfl (.pointer (some ⟨B, 0, none⟩)) (rn_move _ (Or.inl rfl) _ (he13.tmp 0 _ rfl)) (fun a14 he14 => ?_)
   clear he13
   refine wl_callD he14 hm7 1 rfl rfl rfl _ #[.pointer (some ⟨B, 0, none⟩), .int .i64 (4)] (enter_call _ _ _ rfl 29 #[] #[] rfl #[.pointer (some ⟨B, 0, none⟩), .int .i64 (4)] (map2 (he14.tmp 18 _ rfl) rfl) #[.pointer (some ⟨B, 0, none⟩), .int .i64 (4)] rfl (fun _ _ => by kernel_rfl)) (d_pick (h.kb hm7.keep (hm7.bx 1 _ _ _ _ rfl)) (by omega) 4 (by omega) (by omega)) (fun d3 a15 w8 hd3 he15 hm8 => ?_)
   clear he14 hm7
   refine wl_val he15 rfl rfl (.int .i64 (((12 + d3 : Nat) : Int))) (rn_bin _ _ _ _ _ rfl .i64 _ _ rfl (he15.tmp 19 _ rfl) (.int .i64 (IntKind.wrap .i64 (12 + ((d3 : Nat) : Int)))) _ rfl (addN (i := 12) (c := d3) (by omega))) (fun a16 he16 => ?_)
   clear he15
   refine wl_val he16 rfl rfl (.pointer (some ⟨B, 0, none⟩)) (rn_move _ (Or.inl rfl) _ (he16.tmp 0 _ rfl)) (fun a17 he17 => ?_)
   clear he16
   refine wl_buildSlice he17 hm8 5 rfl rfl rfl _ _ _ rfl #[(0, .int .i64 (0)), (1, .int .i64 (1)), (2, .int .i64 (2)), (3, .int .i64 (3)), (4, .int .i64 (7)), (5, .int .i64 (9)), (6, .int .i64 (10)), (7, .int .i64 (200)), (8, .int .i64 (254)), (9, .int .i64 (255))] (by kernel_rfl) 3 (#[.int .i64 (0), .int .i64 (1), .int .i64 (2), .int .i64 (3), .int .i64 (7), .int .i64 (9), .int .i64 (10), .int .i64 (200), .int .i64 (254), .int .i64 (255)]) (by kernel_rfl) (fun a18 w9 b5 he18 hm9 => ?_)
   clear he17 hm8
   refine wl_callD he18 hm9 1 rfl rfl rfl _ #[.pointer (some ⟨B, 0, none⟩), .slice (some ⟨b5, 0, none⟩) (10) (10)] (enter_call _ _ _ rfl 28 #[] #[] rfl #[.pointer (some ⟨B, 0, none⟩), .slice (some ⟨b5, 0, none⟩) (10) (10)] (map2 (he18.tmp 21 _ rfl) (he18.tmp 22 _ rfl)) #[.pointer (some ⟨B, 0, none⟩), .slice (some ⟨b5, 0, none⟩) (10) (10)] rfl (fun _ _ => by kernel_rfl)) (d_one (h.kb hm9.keep (hm9.bx 1 _ _ _ _ rfl)) (by omega) b5 [0, 1, 2, 3, 7, 9, 10, 200, 254, 255] _ (hm9.bx 5 _ _ _ _ rfl) rfl (hm9.apart 5 1 _ _ rfl rfl (by decide) rfl) (by decide) (by decide) _ rfl) (fun d4 a19 w10 hd4 he19 hm10 => ?_)
   clear he18 hm9
   have hd4b : 0 ≤ d4 ∧ d4 ≤ 4294967295 := by simp at hd4; omega
   obtain ⟨d4n, rfl⟩ := Int.eq_ofNat_of_zero_le hd4b.1
   have hd4c : d4n ≤ 255 := by simp at hd4; omega
   refine wl_val he19 rfl rfl (.pointer (some ⟨B, 0, none⟩)) (rn_move _ (Or.inl rfl) _ (he19.tmp 0 _ rfl)) (fun a20 he20 => ?_)
   clear he19
   refine wl_callD he20 hm10 1 rfl rfl rfl _ #[.pointer (some ⟨B, 0, none⟩), .int .i64 (3)] (enter_call _ _ _ rfl 29 #[] #[] rfl #[.pointer (some ⟨B, 0, none⟩), .int .i64 (3)] (map2 (he20.tmp 24 _ rfl) rfl) #[.pointer (some ⟨B, 0, none⟩), .int .i64 (3)] rfl (fun _ _ => by kernel_rfl)) (d_pick (h.kb hm10.keep (hm10.bx 1 _ _ _ _ rfl)) (by omega) 3 (by omega) (by omega)) (fun d5 a21 w11 hd5 he21 hm11 => ?_)
   clear he20 hm10
   refine wl_val he21 rfl rfl (.agg (Ru.arr ((⟨((d2n : Nat) : Int), ((12 + d3 : Nat) : Int), ((d4n : Nat) : Int), ((d5 : Nat) : Int), 0⟩ : Ru)))) (rn_build _ _ rfl #[(0, .int .i64 (((d2n : Nat) : Int))), (1, .int .i64 (((12 + d3 : Nat) : Int))), (2, .int .i64 (((d4n : Nat) : Int))), (3, .int .i64 (((d5 : Nat) : Int)))] (pmap4 (he21.tmp 17 _ rfl) (he21.tmp 20 _ rfl) (he21.tmp 23 _ rfl) (he21.tmp 25 _ rfl)) _ (by kernel_rfl)) (fun a22 he22 => ?_)
   clear he21
   refine wl_alloc he22 hm11 6 rfl rfl rfl _ rfl (.agg #[.int .i64 0, .int .i64 0, .int .i64 0, .int .i64 0, .int .i64 0]) (fun w => by kernel_rfl) (Ru.arr ((⟨0, 0, 0, 0, 0⟩ : Ru))) rfl (fun a23 w12 b6 he23 hm12 => ?_)
   clear he22 hm11
   refine wl_store he23 hm12 6 rfl rfl rfl _ _ _ rfl (0) (he23.tmp 5 _ rfl) _ (he23.tmp 26 _ rfl) 5 agg30.size rfl (Ru.one _) (by decide) (Ru.arr ((⟨((d2n : Nat) : Int), ((12 + d3 : Nat) : Int), ((d4n : Nat) : Int), ((d5 : Nat) : Int), 0⟩ : Ru))) (by kernel_rfl) (fun w13 hm13 => ?_)
   clear hm12
   refine wl_end ?_
   refine wp_seq ?_
   refine wp_seqR ?_
   refine wl_val he23 rfl rfl (.pointer (some ⟨b6, 3, none⟩)) (rn_field _ _ _ rfl _ (.pointer (some ⟨b6, 3, none⟩)) (he23.tmp 5 _ rfl) (by kernel_rfl)) (fun a24 he24 => ?_)
   clear he23
   refine wl_val he24 rfl rfl (.int .i64 (((d5 : Nat) : Int))) (rn_load1 hm13 6 rfl _ _ rfl (3) (he24.tmp 27 _ rfl) one3 _ rfl) (fun a25 he25 => ?_)
   clear he24
   cases hd2 : ((((d5 : Nat) : Int) == 2))
   ·
    have hd2p : ((d5 : Nat) : Int) ≠ 2 := by simpa using hd2
    refine wl_val he25 rfl rfl (.bool false) (rn_bin _ _ _ _ _ rfl .i64 _ _ (he25.tmp 28 _ rfl) rfl (.bool ((((d5 : Nat) : Int) == 2))) _ rfl (congrArg Value.bool (hd2))) (fun a26 he26 => ?_)
    clear he25
    refine wl_end ?_
    refine wp_condF (he := he26) rfl ?_
    refine wp_skip ?_
    refine then_normal ?_
    refine wp_region_lit ?_
    refine wl_val he26 rfl rfl (.slice (some ⟨ob, 0, none⟩) (on) (oc)) (rn_move _ (Or.inl rfl) _ (he26.tmp 3 _ rfl)) (fun a27 he27 => ?_)
    clear he26
    refine wl_val he27 rfl rfl (.agg (Ru.arr ((⟨((d2n : Nat) : Int), ((12 + d3 : Nat) : Int), ((d4n : Nat) : Int), ((d5 : Nat) : Int), 0⟩ : Ru)))) (rn_loadA hm13 6 rfl _ _ rfl (0) (he27.tmp 5 _ rfl) 5 agg30 (Ru.arr ((⟨((d2n : Nat) : Int), ((12 + d3 : Nat) : Int), ((d4n : Nat) : Int), ((d5 : Nat) : Int), 0⟩ : Ru))) (by kernel_rfl) rfl) (fun a28 he28 => ?_)
    clear he27
    refine wl_buildSlice he28 hm13 7 rfl rfl rfl _ _ _ rfl #[(0, .agg (Ru.arr ((⟨((d2n : Nat) : Int), ((12 + d3 : Nat) : Int), ((d4n : Nat) : Int), ((d5 : Nat) : Int), 0⟩ : Ru))))] (pmap1 (he28.tmp 35 _ rfl)) 30 ((cellsOf Ru.arr [(⟨((d2n : Nat) : Int), ((12 + d3 : Nat) : Int), ((d4n : Nat) : Int), ((d5 : Nat) : Int), 0⟩ : Ru)]).toArray) (by kernel_rfl) (fun a29 w14 b7 he29 hm14 => ?_)
    clear he28 hm13
    have rw7_0 : Rw ((cellsOf Ru.arr [(⟨((d2n : Nat) : Int), ((12 + d3 : Nat) : Int), ((d4n : Nat) : Int), ((d5 : Nat) : Int), 0⟩ : Ru)]).toArray) 1 1 5 (cellsOf Ru.arr ([(⟨((d2n : Nat) : Int), ((12 + d3 : Nat) : Int), ((d4n : Nat) : Int), ((d5 : Nat) : Int), 0⟩ : Ru)])) := Rw.lits RuSz [(⟨((d2n : Nat) : Int), ((12 + d3 : Nat) : Int), ((d4n : Nat) : Int), ((d5 : Nat) : Int), 0⟩ : Ru)] (by simp [maxLen])
    refine wl_append (k := on) (cap := oc) he29 hm14 2 rfl rfl rfl _ _ _ rfl el30 (he29.tmp 34 _ rfl) horw ⟨b7, 0, none⟩ 1 1 (he29.tmp 36 _ rfl) (cellsOf Ru.arr ([(⟨((d2n : Nat) : Int), ((12 + d3 : Nat) : Int), ((d4n : Nat) : Int), ((d5 : Nat) : Int), 0⟩ : Ru)])) (rw7_0.len) (fun j u hu => by rw [Addr.add_mid, Nat.zero_add, (hm14.bx 7 _ _ _ _ rfl).cell]; exact rw7_0.get j u hu) (cellsOf_one Ru.one _) (by simp only [maxLen]; omega) (by omega) (fun a30 w15 b2_30 cap2_30 cur2_30 he30 hm15 rw2_30 => ?_)
    clear he29 hm14
    replace rw2_30 := rw2_30.app
    refine wl_val he30 rfl rfl (.slice (some ⟨b2_30, 0, none⟩) (on + 1) (cap2_30)) (rn_move _ (Or.inr rfl) _ (he30.tmp 37 _ rfl)) (fun a31 he31 => ?_)
    clear he30
    refine wpList_nil ?_
    refine in_normal ?_
    refine then_normal ?_
    refine wp_region_lit ?_
    refine wl_val he31 rfl rfl (.int .i64 (((k : Nat) : Int))) (rn_move _ (Or.inl rfl) _ (he31.tmp 4 _ rfl)) (fun a32 he32 => ?_)
    clear he31
    refine wl_val he32 rfl rfl (.int .i64 (((k - 1 : Nat) : Int))) (rn_bin _ _ _ _ _ rfl .i64 _ _ (he32.tmp 13 _ rfl) rfl (.int .i64 (IntKind.wrap .i64 (((k : Nat) : Int) - 1))) _ rfl (subN (i := k) (c := 1) .i64 (by omega) (by rw [IntKind.wrap_i64]; omega))) (fun a33 he33 => ?_)
    clear he32
    refine wl_val he33 rfl rfl (.int .i64 (((k - 1 : Nat) : Int))) (rn_move _ (Or.inr rfl) _ (he33.tmp 14 _ rfl)) (fun a34 he34 => ?_)
    clear he33
    refine wpList_nil ?_
    exact ⟨1 * (k - 1), by omega, k - 1, (o) ++ ([(⟨((d2n : Nat) : Int), ((12 + d3 : Nat) : Int), ((d4n : Nat) : Int), ((d5 : Nat) : Int), 0⟩ : Ru)]), on + 1, b2_30, cap2_30, cur2_30, q + 1 + 1 + 1 + 1, rfl, ⟨by simp [hon], by omega, rw2_30, by omega⟩, he34.sub _ ⟨rfl, rfl, rfl, rfl, rfl, rfl, rfl, rfl, trivial⟩, hm15.sub _ ⟨rfl, rfl, rfl, trivial⟩⟩
   ·
    have hd2p : ((d5 : Nat) : Int) = 2 := by simpa using hd2
    refine wl_val he25 rfl rfl (.bool true) (rn_bin _ _ _ _ _ rfl .i64 _ _ (he25.tmp 28 _ rfl) rfl (.bool ((((d5 : Nat) : Int) == 2))) _ rfl (congrArg Value.bool (hd2))) (fun a26 he26 => ?_)
    clear he25
    refine wl_end ?_
    refine wp_condT (he := he26) rfl ?_
    refine wp_region_lit ?_
    refine wl_val he26 rfl rfl (.pointer (some ⟨B, 0, none⟩)) (rn_move _ (Or.inl rfl) _ (he26.tmp 0 _ rfl)) (fun a27 he27 => ?_)
    clear he26
    refine wl_buildSlice he27 hm13 7 rfl rfl rfl _ _ _ rfl #[(0, .int .i64 (0)), (1, .int .i64 (1)), (2, .int .i64 (2)), (3, .int .i64 (3)), (4, .int .i64 (7)), (5, .int .i64 (9)), (6, .int .i64 (4294967295))] (by kernel_rfl) 3 (#[.int .i64 (0), .int .i64 (1), .int .i64 (2), .int .i64 (3), .int .i64 (7), .int .i64 (9), .int .i64 (4294967295)]) (by kernel_rfl) (fun a28 w14 b7 he28 hm14 => ?_)
    clear he27 hm13
    refine wl_callD he28 hm14 1 rfl rfl rfl _ #[.pointer (some ⟨B, 0, none⟩), .slice (some ⟨b7, 0, none⟩) (7) (7)] (enter_call _ _ _ rfl 28 #[] #[] rfl #[.pointer (some ⟨B, 0, none⟩), .slice (some ⟨b7, 0, none⟩) (7) (7)] (map2 (he28.tmp 30 _ rfl) (he28.tmp 31 _ rfl)) #[.pointer (some ⟨B, 0, none⟩), .slice (some ⟨b7, 0, none⟩) (7) (7)] rfl (fun _ _ => by kernel_rfl)) (d_one (h.kb hm14.keep (hm14.bx 1 _ _ _ _ rfl)) (by omega) b7 [0, 1, 2, 3, 7, 9, 4294967295] _ (hm14.bx 7 _ _ _ _ rfl) rfl (hm14.apart 7 1 _ _ rfl rfl (by decide) rfl) (by decide) (by decide) _ rfl) (fun d6 a29 w15 hd6 he29 hm15 => ?_)
    clear he28 hm14
    have hd6b : 0 ≤ d6 ∧ d6 ≤ 4294967295 := by simp at hd6; omega
    obtain ⟨d6n, rfl⟩ := Int.eq_ofNat_of_zero_le hd6b.1
    have hd6c : d6n ≤ 4294967295 := by simp at hd6; omega
    refine wl_val he29 rfl rfl (.pointer (some ⟨b6, 4, none⟩)) (rn_field _ _ _ rfl _ (.pointer (some ⟨b6, 4, none⟩)) (he29.tmp 5 _ rfl) (by kernel_rfl)) (fun a30 he30 => ?_)
    clear he29
    refine wl_store he30 hm15 6 rfl rfl rfl _ _ _ rfl (4) (he30.tmp 33 _ rfl) _ (he30.tmp 32 _ rfl) 1 one3.size rfl (by kernel_rfl) (by show 4 + 1 ≤ 5; decide) (Ru.arr ((⟨((d2n : Nat) : Int), ((12 + d3 : Nat) : Int), ((d4n : Nat) : Int), ((d5 : Nat) : Int), ((d6n : Nat) : Int)⟩ : Ru))) (by kernel_rfl) (fun w16 hm16 => ?_)
    clear hm15
    refine wpList_nil ?_
    refine then_normal ?_
    refine wp_region_lit ?_
    refine wl_val he30 rfl rfl (.slice (some ⟨ob, 0, none⟩) (on) (oc)) (rn_move _ (Or.inl rfl) _ (he30.tmp 3 _ rfl)) (fun a31 he31 => ?_)
    clear he30
    refine wl_val he31 rfl rfl (.agg (Ru.arr ((⟨((d2n : Nat) : Int), ((12 + d3 : Nat) : Int), ((d4n : Nat) : Int), ((d5 : Nat) : Int), ((d6n : Nat) : Int)⟩ : Ru)))) (rn_loadA hm16 6 rfl _ _ rfl (0) (he31.tmp 5 _ rfl) 5 agg30 (Ru.arr ((⟨((d2n : Nat) : Int), ((12 + d3 : Nat) : Int), ((d4n : Nat) : Int), ((d5 : Nat) : Int), ((d6n : Nat) : Int)⟩ : Ru))) (by kernel_rfl) rfl) (fun a32 he32 => ?_)
    clear he31
    refine wl_buildSlice he32 hm16 8 rfl rfl rfl _ _ _ rfl #[(0, .agg (Ru.arr ((⟨((d2n : Nat) : Int), ((12 + d3 : Nat) : Int), ((d4n : Nat) : Int), ((d5 : Nat) : Int), ((d6n : Nat) : Int)⟩ : Ru))))] (pmap1 (he32.tmp 35 _ rfl)) 30 ((cellsOf Ru.arr [(⟨((d2n : Nat) : Int), ((12 + d3 : Nat) : Int), ((d4n : Nat) : Int), ((d5 : Nat) : Int), ((d6n : Nat) : Int)⟩ : Ru)]).toArray) (by kernel_rfl) (fun a33 w17 b8 he33 hm17 => ?_)
    clear he32 hm16
    have rw8_0 : Rw ((cellsOf Ru.arr [(⟨((d2n : Nat) : Int), ((12 + d3 : Nat) : Int), ((d4n : Nat) : Int), ((d5 : Nat) : Int), ((d6n : Nat) : Int)⟩ : Ru)]).toArray) 1 1 5 (cellsOf Ru.arr ([(⟨((d2n : Nat) : Int), ((12 + d3 : Nat) : Int), ((d4n : Nat) : Int), ((d5 : Nat) : Int), ((d6n : Nat) : Int)⟩ : Ru)])) := Rw.lits RuSz [(⟨((d2n : Nat) : Int), ((12 + d3 : Nat) : Int), ((d4n : Nat) : Int), ((d5 : Nat) : Int), ((d6n : Nat) : Int)⟩ : Ru)] (by simp [maxLen])
    refine wl_append (k := on) (cap := oc) he33 hm17 2 rfl rfl rfl _ _ _ rfl el30 (he33.tmp 34 _ rfl) horw ⟨b8, 0, none⟩ 1 1 (he33.tmp 36 _ rfl) (cellsOf Ru.arr ([(⟨((d2n : Nat) : Int), ((12 + d3 : Nat) : Int), ((d4n : Nat) : Int), ((d5 : Nat) : Int), ((d6n : Nat) : Int)⟩ : Ru)])) (rw8_0.len) (fun j u hu => by rw [Addr.add_mid, Nat.zero_add, (hm17.bx 8 _ _ _ _ rfl).cell]; exact rw8_0.get j u hu) (cellsOf_one Ru.one _) (by simp only [maxLen]; omega) (by omega) (fun a34 w18 b2_34 cap2_34 cur2_34 he34 hm18 rw2_34 => ?_)
    clear he33 hm17
    replace rw2_34 := rw2_34.app
    refine wl_val he34 rfl rfl (.slice (some ⟨b2_34, 0, none⟩) (on + 1) (cap2_34)) (rn_move _ (Or.inr rfl) _ (he34.tmp 37 _ rfl)) (fun a35 he35 => ?_)
    clear he34
    refine wpList_nil ?_
    refine in_normal ?_
    refine then_normal ?_
    refine wp_region_lit ?_
    refine wl_val he35 rfl rfl (.int .i64 (((k : Nat) : Int))) (rn_move _ (Or.inl rfl) _ (he35.tmp 4 _ rfl)) (fun a36 he36 => ?_)
    clear he35
    refine wl_val he36 rfl rfl (.int .i64 (((k - 1 : Nat) : Int))) (rn_bin _ _ _ _ _ rfl .i64 _ _ (he36.tmp 13 _ rfl) rfl (.int .i64 (IntKind.wrap .i64 (((k : Nat) : Int) - 1))) _ rfl (subN (i := k) (c := 1) .i64 (by omega) (by rw [IntKind.wrap_i64]; omega))) (fun a37 he37 => ?_)
    clear he36
    refine wl_val he37 rfl rfl (.int .i64 (((k - 1 : Nat) : Int))) (rn_move _ (Or.inr rfl) _ (he37.tmp 14 _ rfl)) (fun a38 he38 => ?_)
    clear he37
    refine wpList_nil ?_
    exact ⟨1 * (k - 1), by omega, k - 1, (o) ++ ([(⟨((d2n : Nat) : Int), ((12 + d3 : Nat) : Int), ((d4n : Nat) : Int), ((d5 : Nat) : Int), ((d6n : Nat) : Int)⟩ : Ru)]), on + 1, b2_34, cap2_34, cur2_34, q + 1 + 1 + 1 + 1 + 1, rfl, ⟨by simp [hon], by omega, rw2_34, by omega⟩, he38.sub _ ⟨rfl, rfl, rfl, rfl, rfl, rfl, rfl, rfl, trivial⟩, hm18.sub _ ⟨rfl, rfl, rfl, trivial⟩⟩
end Go.Proofs.Ytkaekiodjjhjkaa.W
