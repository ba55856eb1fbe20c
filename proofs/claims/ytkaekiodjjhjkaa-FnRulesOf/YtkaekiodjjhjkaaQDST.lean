/- The draw of a start. -/
import Derived.Test.YtkaekiodjjhjkaaQGrp5
namespace Go.Proofs.Ytkaekiodjjhjkaa.W
open Go.RowKit
set_option linter.unusedVariables false
set_option linter.unusedSimpArgs false
def u8A (n : Nat) : Array Value := #[.int .u8 ((n : Nat) : Int)]
theorem u8A.sz (n : Nat) : (u8A n).size = 1 := rfl
theorem u8A.one (n : Nat) : (u8A n).all (·.oneCell') = true := by kernel_rfl
def i64A (n : Int) : Array Value := #[.int .i64 n]
theorem i64A.sz (n : Int) : (i64A n).size = 1 := rfl
theorem i64A.one (n : Int) : (i64A n).all (·.oneCell') = true := by kernel_rfl
theorem el5 : ElT Try.prog 22 5 (.int .u8 0) 1 1 := ⟨by kernel_rfl, by kernel_rfl, by kernel_rfl, by decide⟩
theorem el3 : ElT Try.prog 42 3 (.int .i64 0) 1 8 := ⟨by kernel_rfl, by kernel_rfl, by kernel_rfl, by decide⟩
theorem agg44 : AggT Try.prog 44 5 := ⟨fun w => by kernel_rfl, fun w => by kernel_rfl⟩
theorem one42 : OneT Try.prog 42 := ⟨fun w => by kernel_rfl, fun w => by kernel_rfl⟩
theorem wr8 {n : Nat} (h : n < 256) : Value.int .u8 (IntKind.u8.wrap (n : Int)) = .int .u8 (n : Int) := by rw [show IntKind.u8.wrap (n : Int) = (n : Int) by simp [IntKind.wrap, IntKind.bits, IntKind.signed]; omega]
theorem cv_bytes {w : World} {b n cap : Nat} {cur : Array Value} {l : List Nat} (hx : BX w b 5 cur) (rw_ : Rw cur n cap 1 (cellsOf u8A l)) (hn : n = l.length) : (convert 22 9 (.slice (some ⟨b, 0, none⟩) n cap)).run Try.prog w = .ok (.string (strOfNums (l.map fun n : Nat => (n : Int)))) w := by
  subst hn
  refine run_convert_bytes_arg (P := Try.prog) w 22 5 Try.underlying22 Try.underlying5 b 0 l.length cap (l.map fun n : Nat => (n : Int)) (by simp) (fun i hi => ?_) 9 Try.underlying9
  have hg := cellsOf_get u8A.sz l i 0 _ (List.getElem?_eq_getElem hi) (by omega)
  rw [Nat.zero_add, hx.cell]
  refine rw_.get i _ ?_
  have e : (cellsOf u8A l)[i * 1 + 0]? = some (.int .u8 ((l[i] : Nat) : Int)) := hg
  simpa [List.getD, hi] using e
theorem rn_cvs {P : Program} {op : Oper} {a : Act} {w : World} (T U : TypeId) (x : Operand) (ho : op.op = .convert T U x) (v u : Value) (hx : a.eval x = v) (hr : (convert T U v).run P w = .ok u w) : (execOp a.eval op).run P w = .ok (.value u) w := by
  unfold execOp
  simp only [ho, hx, Sem.run_bind, hr]; rfl
theorem sz_nums (l : List Nat) : (strOfNums (l.map fun n : Nat => (n : Int))).size = l.length := by simp [strOfNums, ByteArray.size]
set_option maxRecDepth 100000 in
set_option maxHeartbeats 4000000 in
theorem d_tables {w0 : World} {B : Nat} {a : Option Addr} {len cap p : Nat} (w : World) (h : RS w0 w B a len cap p) (hp : p ≤ 700000) :
    Calls Try.prog 31 #[.pointer (some ⟨B, 0, none⟩)] w fun e w' => Draws w B (fun x : Option Addr × Nat × Nat × Nat => .slice x.1 x.2.1 x.2.2.1) 67 (fun x => rdA a len cap x.2.2.2) (fun x => x.2.2.2 ≤ p + 90) e w' := by
  refine calls_begin Try.func31 rfl 17 rfl (Nat.le_of_ble_eq_true rfl) [(0, .pointer (some ⟨B, 0, none⟩))] ⟨rfl, trivial⟩ (fun a0 he0 hm0 => ?_)
  have hm1 := MM.start1 (w := w) 1 h.bx
  clear hm0
  refine wp_seqR ?_
  refine wl_val he0 rfl rfl (.slice none 0 0) (rn_move _ (Or.inr rfl) _ rfl) (fun a1 he1 => ?_)
  clear he0
  refine wl_end ?_
  refine wp_seqR ?_
  refine wl_val he1 rfl rfl (.pointer (some ⟨B, 0, none⟩)) (rn_move _ (Or.inl rfl) _ (he1.tmp 0 _ rfl)) (fun a2 he2 => ?_)
  clear he1
  refine wl_callD he2 hm1 1 rfl rfl rfl _ #[.pointer (some ⟨B, 0, none⟩)] (enter_call _ _ _ rfl 55 #[] #[] rfl #[.pointer (some ⟨B, 0, none⟩)] (map1 (he2.tmp 4 _ rfl)) #[.pointer (some ⟨B, 0, none⟩)] rfl (fun _ _ => by kernel_rfl)) (d_table (h.kb hm1.keep (hm1.bx 1 _ _ _ _ rfl)) (by omega)) (fun d1 a3 w2 hd1 he3 hm2 => ?_)
  clear he2 hm1
  have hd1b : d1.2.2.2 ≤ p + 40 := hd1
  refine wl_val he3 rfl rfl (.pointer (some ⟨B, 0, none⟩)) (rn_move _ (Or.inl rfl) _ (he3.tmp 0 _ rfl)) (fun a4 he4 => ?_)
  clear he3
  refine wl_callD he4 hm2 1 rfl rfl rfl _ #[.pointer (some ⟨B, 0, none⟩)] (enter_call _ _ _ rfl 55 #[] #[] rfl #[.pointer (some ⟨B, 0, none⟩)] (map1 (he4.tmp 6 _ rfl)) #[.pointer (some ⟨B, 0, none⟩)] rfl (fun _ _ => by kernel_rfl)) (d_table (h.kb hm2.keep (hm2.bx 1 _ _ _ _ rfl)) (by omega)) (fun d2 a5 w3 hd2 he5 hm3 => ?_)
  clear he4 hm2
  have hd2b : d2.2.2.2 ≤ d1.2.2.2 + 40 := hd2
  refine wl_buildSlice he5 hm3 2 rfl rfl rfl _ _ _ rfl #[(0, .agg (#[.int .i64 (d1.1.1), .int .i64 (d1.1.2.1), .int .i64 (d1.1.2.2), .slice d1.2.1.1 d1.2.1.2.1 d1.2.1.2.2, .slice d1.2.2.1.1 d1.2.2.1.2.1 d1.2.2.1.2.2])), (1, .agg (#[.int .i64 (d2.1.1), .int .i64 (d2.1.2.1), .int .i64 (d2.1.2.2), .slice d2.2.1.1 d2.2.1.2.1 d2.2.1.2.2, .slice d2.2.2.1.1 d2.2.2.1.2.1 d2.2.2.1.2.2]))] (pmap2 (he5.tmp 5 _ rfl) (he5.tmp 7 _ rfl)) 89 (#[.int .i64 (d1.1.1), .int .i64 (d1.1.2.1), .int .i64 (d1.1.2.2), .slice d1.2.1.1 d1.2.1.2.1 d1.2.1.2.2, .slice d1.2.2.1.1 d1.2.2.1.2.1 d1.2.2.1.2.2, .int .i64 (d2.1.1), .int .i64 (d2.1.2.1), .int .i64 (d2.1.2.2), .slice d2.2.1.1 d2.2.1.2.1 d2.2.1.2.2, .slice d2.2.2.1.1 d2.2.2.1.2.1 d2.2.2.1.2.2]) (by kernel_rfl) (fun a6 w4 b2 he6 hm4 => ?_)
  clear he5 hm3
  refine wl_val he6 rfl rfl (.slice (some ⟨b2, 0, none⟩) (2) (2)) (rn_move _ (Or.inr rfl) _ (he6.tmp 8 _ rfl)) (fun a7 he7 => ?_)
  clear he6
  refine wl_end ?_
  refine wp_seq ?_
  refine wp_seqR ?_
  refine wl_val he7 rfl rfl (.pointer (some ⟨B, 0, none⟩)) (rn_move _ (Or.inl rfl) _ (he7.tmp 0 _ rfl)) (fun a8 he8 => ?_)
  clear he7
  refine wl_callD he8 hm4 1 rfl rfl rfl _ #[.pointer (some ⟨B, 0, none⟩), .int .i64 (6)] (enter_call _ _ _ rfl 29 #[] #[] rfl #[.pointer (some ⟨B, 0, none⟩), .int .i64 (6)] (map2 (he8.tmp 9 _ rfl) rfl) #[.pointer (some ⟨B, 0, none⟩), .int .i64 (6)] rfl (fun _ _ => by kernel_rfl)) (d_pick (h.kb hm4.keep (hm4.bx 1 _ _ _ _ rfl)) (by omega) 6 (by omega) (by omega)) (fun d3 a9 w5 hd3 he9 hm5 => ?_)
  clear he8 hm4
  cases hd1 : ((((d3 : Nat) : Int) == 0))
  ·
   have hd1p : ((d3 : Nat) : Int) ≠ 0 := by simpa using hd1
   refine wl_val he9 rfl rfl (.bool false) (rn_bin _ _ _ _ _ rfl .i64 _ _ (he9.tmp 10 _ rfl) rfl (.bool ((((d3 : Nat) : Int) == 0))) _ rfl (congrArg Value.bool (hd1))) (fun a10 he10 => ?_)
   clear he9
   refine wl_end ?_
   refine wp_condF (he := he10) rfl ?_
   refine wp_skip ?_
   refine then_normal ?_
   refine wp_seqR ?_
   refine wl_val he10 rfl rfl (.slice (some ⟨b2, 0, none⟩) (2) (2)) (rn_move _ (Or.inl rfl) _ (he10.tmp 3 _ rfl)) (fun a11 he11 => ?_)
   clear he10
   refine wl_val he11 rfl rfl (.slice (some ⟨b2, 0, none⟩) (2) (2)) (rn_move _ (Or.inr rfl) _ (he11.tmp 16 _ rfl)) (fun a12 he12 => ?_)
   clear he11
   refine wl_end ?_
   refine wp_ret ?_
   exact bodyPost_ret (results_tmp he12 _ Try.results31 _ rfl) he12.defers ⟨(some ⟨b2, 0, none⟩, 2, 2, d2.2.2.2 + 1), rfl, (by show d2.2.2.2 + 1 ≤ p + 90; omega), hm5.keep, hm5.bx 1 _ _ _ _ rfl⟩
  ·
   have hd1p : ((d3 : Nat) : Int) = 0 := by simpa using hd1
   refine wl_val he9 rfl rfl (.bool true) (rn_bin _ _ _ _ _ rfl .i64 _ _ (he9.tmp 10 _ rfl) rfl (.bool ((((d3 : Nat) : Int) == 0))) _ rfl (congrArg Value.bool (hd1))) (fun a10 he10 => ?_)
   clear he9
   refine wl_end ?_
   refine wp_condT (he := he10) rfl ?_
   refine wp_seqR ?_
   refine wl_val he10 rfl rfl (.slice (some ⟨b2, 0, none⟩) (2) (2)) (rn_move _ (Or.inl rfl) _ (he10.tmp 3 _ rfl)) (fun a11 he11 => ?_)
   clear he10
   refine wl_val he11 rfl rfl (.pointer (some ⟨B, 0, none⟩)) (rn_move _ (Or.inl rfl) _ (he11.tmp 0 _ rfl)) (fun a12 he12 => ?_)
   clear he11
   refine wl_callD he12 hm5 1 rfl rfl rfl _ #[.pointer (some ⟨B, 0, none⟩), .int .i64 (2)] (enter_call _ _ _ rfl 29 #[] #[] rfl #[.pointer (some ⟨B, 0, none⟩), .int .i64 (2)] (map2 (he12.tmp 13 _ rfl) rfl) #[.pointer (some ⟨B, 0, none⟩), .int .i64 (2)] rfl (fun _ _ => by kernel_rfl)) (d_pick (h.kb hm5.keep (hm5.bx 1 _ _ _ _ rfl)) (by omega) 2 (by omega) (by omega)) (fun d4 a13 w6 hd4 he13 hm6 => ?_)
   clear he12 hm5
   rcases (by omega : d4 = 0 ∨ d4 = 1) with hv | hv
   ·
    refine wl_val he13 rfl rfl (.slice (some ⟨b2, 0, none⟩) 0 2) (rn_slc _ _ _ rfl _ _ (.slice (some ⟨b2, 0, none⟩) 0 2) (he13.tmp 12 _ rfl) (he13.tmp 14 _ rfl) (by rw [hv]; kernel_rfl)) (fun a14 he14 => ?_)
    clear he13
    refine wl_val he14 rfl rfl (.slice (some ⟨b2, 0, none⟩) 0 2) (rn_move _ (Or.inr rfl) _ (he14.tmp 15 _ rfl)) (fun a15 he15 => ?_)
    clear he14
    refine wl_end ?_
    refine wp_ret ?_
    refine ret_then ?_
    exact bodyPost_ret (results_tmp he15 _ Try.results31 _ rfl) he15.defers ⟨(some ⟨b2, 0, none⟩, 0, 2, d2.2.2.2 + 1 + 1), rfl, (by show d2.2.2.2 + 1 + 1 ≤ p + 90; omega), hm6.keep, hm6.bx 1 _ _ _ _ rfl⟩
   ·
    refine wl_val he13 rfl rfl (.slice (some ⟨b2, 0, none⟩) 1 2) (rn_slc _ _ _ rfl _ _ (.slice (some ⟨b2, 0, none⟩) 1 2) (he13.tmp 12 _ rfl) (he13.tmp 14 _ rfl) (by rw [hv]; kernel_rfl)) (fun a14 he14 => ?_)
    clear he13
    refine wl_val he14 rfl rfl (.slice (some ⟨b2, 0, none⟩) 1 2) (rn_move _ (Or.inr rfl) _ (he14.tmp 15 _ rfl)) (fun a15 he15 => ?_)
    clear he14
    refine wl_end ?_
    refine wp_ret ?_
    refine ret_then ?_
    exact bodyPost_ret (results_tmp he15 _ Try.results31 _ rfl) he15.defers ⟨(some ⟨b2, 0, none⟩, 1, 2, d2.2.2.2 + 1 + 1), rfl, (by show d2.2.2.2 + 1 + 1 ≤ p + 90; omega), hm6.keep, hm6.bx 1 _ _ _ _ rfl⟩
structure StX where
  prog : Value
  came : ByteArray
  tabs : Value
  rands : Value
  socks : Value
  q : Nat
set_option maxRecDepth 100000 in
set_option maxHeartbeats 4000000 in
theorem d_start {w0 : World} {B : Nat} {a : Option Addr} {len cap p : Nat} (w : World) (h : RS w0 w B a len cap p) (hp : p ≤ 100000) :
    Calls Try.prog 16 #[.pointer (some ⟨B, 0, none⟩)] w fun e w' => Draws w B (fun x : StX => .agg #[x.prog, .string x.came, x.tabs, x.rands, x.socks]) 67 (fun x => rdA a len cap x.q) (fun x => x.came.size = 12 ∧ x.q ≤ p + 700) e w' := by
  refine calls_begin Try.func16 rfl 57 rfl (Nat.le_of_ble_eq_true rfl) [(0, .pointer (some ⟨B, 0, none⟩))] ⟨rfl, trivial⟩ (fun a0 he0 hm0 => ?_)
  have hm1 := MM.start1 (w := w) 1 h.bx
  clear hm0
  refine wp_seqR ?_
  refine wl_alloc he0 hm1 2 rfl rfl rfl _ rfl (.agg #[.slice none 0 0, .string ⟨#[]⟩, .slice none 0 0, .slice none 0 0, .slice none 0 0]) (fun w => by kernel_rfl) (#[.slice none 0 0, .string (⟨#[]⟩), .slice none 0 0, .slice none 0 0, .slice none 0 0]) rfl (fun a1 w2 b2 he1 hm2 => ?_)
  clear he0 hm1
  refine wl_end ?_
  refine wp_seqR ?_
  refine wl_val he1 rfl rfl (.pointer (some ⟨B, 0, none⟩)) (rn_move _ (Or.inl rfl) _ (he1.tmp 0 _ rfl)) (fun a2 he2 => ?_)
  clear he1
  refine wl_callD he2 hm2 1 rfl rfl rfl _ #[.pointer (some ⟨B, 0, none⟩)] (enter_call _ _ _ rfl 30 #[] #[] rfl #[.pointer (some ⟨B, 0, none⟩)] (map1 (he2.tmp 8 _ rfl)) #[.pointer (some ⟨B, 0, none⟩)] rfl (fun _ _ => by kernel_rfl)) (d_prog (h.kb hm2.keep (hm2.bx 1 _ _ _ _ rfl)) (by omega)) (fun d1 a3 w3 hd1 he3 hm3 => ?_)
  clear he2 hm2
  have hd1b : d1.2.2.2 ≤ p + 450 := hd1
  refine wl_val he3 rfl rfl (.pointer (some ⟨B, 0, none⟩)) (rn_move _ (Or.inl rfl) _ (he3.tmp 0 _ rfl)) (fun a4 he4 => ?_)
  clear he3
  refine wl_callD he4 hm3 1 rfl rfl rfl _ #[.pointer (some ⟨B, 0, none⟩)] (enter_call _ _ _ rfl 31 #[] #[] rfl #[.pointer (some ⟨B, 0, none⟩)] (map1 (he4.tmp 10 _ rfl)) #[.pointer (some ⟨B, 0, none⟩)] rfl (fun _ _ => by kernel_rfl)) (d_tables _ (h.kb hm3.keep (hm3.bx 1 _ _ _ _ rfl)) (by omega)) (fun d2 a5 w4 hd2 he5 hm4 => ?_)
  clear he4 hm3
  have hd2b : d2.2.2.2 ≤ d1.2.2.2 + 90 := hd2
  refine wl_val he5 rfl rfl (.agg (#[.slice d1.1 d1.2.1 d1.2.2.1, .string (⟨#[]⟩), .slice d2.1 d2.2.1 d2.2.2.1, .slice none 0 0, .slice none 0 0])) (rn_build _ _ rfl #[(0, .slice d1.1 d1.2.1 d1.2.2.1), (2, .slice d2.1 d2.2.1 d2.2.2.1)] (pmap2 (he5.tmp 9 _ rfl) (he5.tmp 11 _ rfl)) _ (by kernel_rfl)) (fun a6 he6 => ?_)
  clear he5
  refine wl_alloc he6 hm4 3 rfl rfl rfl _ rfl (.agg #[.slice none 0 0, .string ⟨#[]⟩, .slice none 0 0, .slice none 0 0, .slice none 0 0]) (fun w => by kernel_rfl) (#[.slice none 0 0, .string (⟨#[]⟩), .slice none 0 0, .slice none 0 0, .slice none 0 0]) rfl (fun a7 w5 b3 he7 hm5 => ?_)
  clear he6 hm4
  refine wl_store he7 hm5 3 rfl rfl rfl _ _ _ rfl (0) (he7.tmp 3 _ rfl) _ (he7.tmp 12 _ rfl) 5 agg44.size rfl (by kernel_rfl) (by simp) (#[.slice d1.1 d1.2.1 d1.2.2.1, .string (⟨#[]⟩), .slice d2.1 d2.2.1 d2.2.2.1, .slice none 0 0, .slice none 0 0]) (by kernel_rfl) (fun w6 hm6 => ?_)
  clear hm5
  refine wl_end ?_
  refine wp_seqR ?_
  refine wl_buildSlice he7 hm6 4 rfl rfl rfl _ _ _ rfl #[] (pmap0 _) 5 ((cellsOf u8A []).toArray) (by kernel_rfl) (fun a8 w7 b4 he8 hm7 => ?_)
  clear he7 hm6
  have rw4_0 : Rw ((cellsOf u8A []).toArray) 0 0 1 (cellsOf u8A ([])) := Rw.lits u8A.sz [] (by simp [maxLen])
  refine wl_val he8 rfl rfl (.slice (some ⟨b4, 0, none⟩) (0) (0)) (rn_move _ (Or.inr rfl) _ (he8.tmp 13 _ rfl)) (fun a9 he9 => ?_)
  clear he8
  refine wl_end ?_
  refine wp_seq ?_
  refine wp_seqR ?_
  refine wl_val he9 rfl rfl (.int .i64 (0)) (rn_move _ (Or.inr rfl) _ rfl) (fun a10 he10 => ?_)
  clear he9
  refine wl_end ?_
  refine wp_block ?_
  refine wp_loopN (fun mz az wz => ∃ (i : Nat), ∃ (o : List Nat), ∃ (on : Nat), ∃ (ob : Nat), ∃ (oc : Nat), ∃ (oa : Array Value), ∃ (q : Nat), mz = 12 - (i) ∧ (i ≤ 12 ∧ on = (o).length ∧ on = i ∧ Rw (oa) (on) (oc) 1 (cellsOf u8A (o)) ∧ q ≤ p + 540 + i) ∧ EV az 57 [] [(0, .pointer (some ⟨B, 0, none⟩)), (2, .pointer (some ⟨b2, 0, none⟩)), (8, .pointer (some ⟨B, 0, none⟩)), (9, .slice d1.1 d1.2.1 d1.2.2.1), (10, .pointer (some ⟨B, 0, none⟩)), (11, .slice d2.1 d2.2.1 d2.2.2.1), (12, .agg (#[.slice d1.1 d1.2.1 d1.2.2.1, .string (⟨#[]⟩), .slice d2.1 d2.2.1 d2.2.2.1, .slice none 0 0, .slice none 0 0])), (3, .pointer (some ⟨b3, 0, none⟩)), (13, .slice (some ⟨b4, 0, none⟩) (0) (0)), (5, .int .i64 (((i : Nat) : Int))), (4, .slice (some ⟨ob, 0, none⟩) (on) (oc))] ∧ MM [B] w wz [(1, ⟨true, B, 67, rdA a len cap (q)⟩), (2, ⟨true, b2, 44, #[.slice none 0 0, .string (⟨#[]⟩), .slice none 0 0, .slice none 0 0, .slice none 0 0]⟩), (3, ⟨true, b3, 44, #[.slice d1.1 d1.2.1 d1.2.2.1, .string (⟨#[]⟩), .slice d2.1 d2.2.1 d2.2.2.1, .slice none 0 0, .slice none 0 0]⟩), (4, ⟨true, ob, 5, oa⟩)]) ⟨_, 0, [], 0, b4, 0, (cellsOf u8A []).toArray, d2.2.2.2, rfl, ⟨by omega, rfl, rfl, rw4_0, by omega⟩, he10.sub _ ⟨rfl, rfl, rfl, rfl, rfl, rfl, rfl, rfl, rfl, rfl, rfl, trivial⟩, hm7.sub _ ⟨rfl, rfl, rfl, rfl, trivial⟩⟩ ?_
  rintro mz1 a11 w8 ⟨i, o, on, ob, oc, oa, q, rfl, hrel1, he11, hm8⟩
  clear he10 hm7
  obtain ⟨hi, hcn, hci, horw, hq⟩ := hrel1
  refine wp_seq ?_
  refine wp_seqR ?_
  refine wl_val he11 rfl rfl (.int .i64 (((i : Nat) : Int))) (rn_move _ (Or.inl rfl) _ (he11.tmp 5 _ rfl)) (fun a12 he12 => ?_)
  clear he11
  cases hd1 : (decide (((i : Nat) : Int) < 12))
  ·
   have hd1p := of_decide_eq_false hd1
   refine wl_val he12 rfl rfl (.bool false) (rn_bin _ _ _ _ _ rfl .i64 _ _ (he12.tmp 14 _ rfl) rfl (.bool (decide (((i : Nat) : Int) < 12))) _ rfl (congrArg Value.bool (hd1))) (fun a13 he13 => ?_)
   clear he12
   refine wl_end ?_
   refine wp_condF (he := he13) rfl ?_
   refine wp_exit ?_
   refine exit_then ?_
   refine exit_then ?_
   refine exit_here ?_
   refine then_normal ?_
   refine wp_seqR ?_
   refine wl_val he13 rfl rfl (.slice (some ⟨ob, 0, none⟩) (on) (oc)) (rn_move _ (Or.inl rfl) _ (he13.tmp 4 _ rfl)) (fun a14 he14 => ?_)
   clear he13
   obtain ⟨z0, hz0⟩ : ∃ z0 : ByteArray, z0 = strOfNums ((o).map fun n : Nat => (n : Int)) := ⟨_, rfl⟩
   have hz12 : z0.size = 12 := by rw [hz0, sz_nums, ← hcn]; omega
   refine wl_val he14 rfl rfl (.string (z0)) (rn_cvs _ _ _ rfl _ _ (he14.tmp 25 _ rfl) (by rw [hz0]; exact cv_bytes (hm8.bx 4 _ _ _ _ rfl) horw hcn)) (fun a15 he15 => ?_)
   clear he14
   refine wl_val he15 rfl rfl (.pointer (some ⟨b3, 1, none⟩)) (rn_field _ _ _ rfl _ (.pointer (some ⟨b3, 1, none⟩)) (he15.tmp 3 _ rfl) (by kernel_rfl)) (fun a16 he16 => ?_)
   clear he15
   refine wl_store he16 hm8 3 rfl rfl rfl _ _ _ rfl (1) (he16.tmp 27 _ rfl) _ (he16.tmp 26 _ rfl) 1 one9.size rfl (by kernel_rfl) (by simp) (#[.slice d1.1 d1.2.1 d1.2.2.1, .string (z0), .slice d2.1 d2.2.1 d2.2.2.1, .slice none 0 0, .slice none 0 0]) (by kernel_rfl) (fun w9 hm9 => ?_)
   clear hm8
   refine wl_end ?_
   refine wp_seq ?_
   refine wp_seqR ?_
   refine wl_val he16 rfl rfl (.pointer (some ⟨B, 0, none⟩)) (rn_move _ (Or.inl rfl) _ (he16.tmp 0 _ rfl)) (fun a17 he17 => ?_)
   clear he16
   refine wl_callD he17 hm9 1 rfl rfl rfl _ #[.pointer (some ⟨B, 0, none⟩), .int .i64 (3)] (enter_call _ _ _ rfl 29 #[] #[] rfl #[.pointer (some ⟨B, 0, none⟩), .int .i64 (3)] (map2 (he17.tmp 28 _ rfl) rfl) #[.pointer (some ⟨B, 0, none⟩), .int .i64 (3)] rfl (fun _ _ => by kernel_rfl)) (d_pick (h.kb hm9.keep (hm9.bx 1 _ _ _ _ rfl)) (by omega) 3 (by omega) (by omega)) (fun d3 a18 w10 hd3 he18 hm10 => ?_)
   clear he17 hm9
   refine wl_val he18 rfl rfl (.int .i64 (((1 + d3 : Nat) : Int))) (rn_bin _ _ _ _ _ rfl .i64 _ _ rfl (he18.tmp 29 _ rfl) (.int .i64 (IntKind.wrap .i64 (1 + ((d3 : Nat) : Int)))) _ rfl (addN (i := 1) (c := d3) (by omega))) (fun a19 he19 => ?_)
   clear he18
   refine wl_val he19 rfl rfl (.int .i64 (((1 + d3 : Nat) : Int))) (rn_move _ (Or.inr rfl) _ (he19.tmp 30 _ rfl)) (fun a20 he20 => ?_)
   clear he19
   refine wl_end ?_
   refine wp_block ?_
   refine wp_loopN (fun mz az wz => (∃ (kk2 : Nat), ∃ (qq2 : Nat), mz = 1 * kk2 ∧ (kk2 ≤ 3 ∧ qq2 + 3 * kk2 ≤ p + 600) ∧ EV az 57 [] [(0, .pointer (some ⟨B, 0, none⟩)), (2, .pointer (some ⟨b2, 0, none⟩)), (8, .pointer (some ⟨B, 0, none⟩)), (9, .slice d1.1 d1.2.1 d1.2.2.1), (10, .pointer (some ⟨B, 0, none⟩)), (11, .slice d2.1 d2.2.1 d2.2.2.1), (12, .agg (#[.slice d1.1 d1.2.1 d1.2.2.1, .string (⟨#[]⟩), .slice d2.1 d2.2.1 d2.2.2.1, .slice none 0 0, .slice none 0 0])), (3, .pointer (some ⟨b3, 0, none⟩)), (13, .slice (some ⟨b4, 0, none⟩) (0) (0)), (5, .int .i64 (((i : Nat) : Int))), (4, .slice (some ⟨ob, 0, none⟩) (on) (oc)), (14, .int .i64 (((i : Nat) : Int))), (15, .bool false), (25, .slice (some ⟨ob, 0, none⟩) (on) (oc)), (26, .string (z0)), (27, .pointer (some ⟨b3, 1, none⟩)), (28, .pointer (some ⟨B, 0, none⟩)), (29, .int .i64 (((d3 : Nat) : Int))), (30, .int .i64 (((1 + d3 : Nat) : Int))), (6, .int .i64 (((kk2 : Nat) : Int)))] ∧ MM [B] w wz [(1, ⟨true, B, 67, rdA a len cap (qq2)⟩), (2, ⟨true, b2, 44, #[.slice none 0 0, .string (⟨#[]⟩), .slice none 0 0, .slice none 0 0, .slice none 0 0]⟩), (3, ⟨true, b3, 44, #[.slice d1.1 d1.2.1 d1.2.2.1, .string (z0), .slice d2.1 d2.2.1 d2.2.2.1, .slice none 0 0, .slice none 0 0]⟩), (4, ⟨true, ob, 5, oa⟩)]) ∨ (∃ (kk2 : Nat), ∃ (oo2 : List Int), ∃ (nn2 : Nat), ∃ (bb2 : Nat), ∃ (cc2 : Nat), ∃ (aa2 : Array Value), ∃ (qq2 : Nat), mz = 1 * kk2 ∧ (nn2 = (oo2).length ∧ nn2 + kk2 ≤ 3 ∧ Rw (aa2) (nn2) (cc2) 1 (cellsOf i64A (oo2)) ∧ qq2 + 3 * kk2 ≤ p + 600) ∧ EV az 57 [] [(0, .pointer (some ⟨B, 0, none⟩)), (2, .pointer (some ⟨b2, 0, none⟩)), (8, .pointer (some ⟨B, 0, none⟩)), (9, .slice d1.1 d1.2.1 d1.2.2.1), (10, .pointer (some ⟨B, 0, none⟩)), (11, .slice d2.1 d2.2.1 d2.2.2.1), (12, .agg (#[.slice d1.1 d1.2.1 d1.2.2.1, .string (⟨#[]⟩), .slice d2.1 d2.2.1 d2.2.2.1, .slice none 0 0, .slice none 0 0])), (3, .pointer (some ⟨b3, 0, none⟩)), (13, .slice (some ⟨b4, 0, none⟩) (0) (0)), (5, .int .i64 (((i : Nat) : Int))), (4, .slice (some ⟨ob, 0, none⟩) (on) (oc)), (14, .int .i64 (((i : Nat) : Int))), (15, .bool false), (25, .slice (some ⟨ob, 0, none⟩) (on) (oc)), (26, .string (z0)), (27, .pointer (some ⟨b3, 1, none⟩)), (28, .pointer (some ⟨B, 0, none⟩)), (29, .int .i64 (((d3 : Nat) : Int))), (30, .int .i64 (((1 + d3 : Nat) : Int))), (6, .int .i64 (((kk2 : Nat) : Int)))] ∧ MM [B] w wz [(1, ⟨true, B, 67, rdA a len cap (qq2)⟩), (2, ⟨true, b2, 44, #[.slice none 0 0, .string (⟨#[]⟩), .slice none 0 0, .slice none 0 0, .slice none 0 0]⟩), (3, ⟨true, b3, 44, #[.slice d1.1 d1.2.1 d1.2.2.1, .string (z0), .slice d2.1 d2.2.1 d2.2.2.1, .slice (some ⟨bb2, 0, none⟩) (nn2) (cc2), .slice none 0 0]⟩), (4, ⟨true, ob, 5, oa⟩), (83, ⟨true, bb2, 3, aa2⟩)])) ⟨_, Or.inl ⟨1 + d3, q + 1, rfl, ⟨by omega, by omega⟩, he20.sub _ ⟨rfl, rfl, rfl, rfl, rfl, rfl, rfl, rfl, rfl, rfl, rfl, rfl, rfl, rfl, rfl, rfl, rfl, rfl, rfl, rfl, trivial⟩, hm10.sub _ ⟨rfl, rfl, rfl, rfl, trivial⟩⟩⟩ ?_
   rintro mz2 a21 w11 (⟨kk2, qq2, rfl, hrel2, he21, hm11⟩ | ⟨kk2, oo2, nn2, bb2, cc2, aa2, qq2, rfl, hrel2, he21, hm11⟩)
   ·
    clear he20 hm10
    obtain ⟨hk2, hq2⟩ := hrel2
    refine wp_seq ?_
    refine wp_seqR ?_
    refine wl_val he21 rfl rfl (.int .i64 (((kk2 : Nat) : Int))) (rn_move _ (Or.inl rfl) _ (he21.tmp 6 _ rfl)) (fun a22 he22 => ?_)
    clear he21
    cases hd2 : (decide (((kk2 : Nat) : Int) > 0))
    ·
     have hd2p := of_decide_eq_false hd2
     refine wl_val he22 rfl rfl (.bool false) (rn_bin _ _ _ _ _ rfl .i64 _ _ (he22.tmp 31 _ rfl) rfl (.bool (decide (((kk2 : Nat) : Int) > 0))) _ rfl (congrArg Value.bool (hd2))) (fun a23 he23 => ?_)
     clear he22
     refine wl_end ?_
     refine wp_condF (he := he23) rfl ?_
     refine wp_exit ?_
     refine exit_then ?_
     refine exit_then ?_
     refine exit_here ?_
     refine then_normal ?_
     refine wp_seq ?_
     refine wp_seqR ?_
     refine wl_val he23 rfl rfl (.pointer (some ⟨B, 0, none⟩)) (rn_move _ (Or.inl rfl) _ (he23.tmp 0 _ rfl)) (fun a24 he24 => ?_)
     clear he23
     refine wl_callD he24 hm11 1 rfl rfl rfl _ #[.pointer (some ⟨B, 0, none⟩), .int .i64 (4)] (enter_call _ _ _ rfl 29 #[] #[] rfl #[.pointer (some ⟨B, 0, none⟩), .int .i64 (4)] (map2 (he24.tmp 42 _ rfl) rfl) #[.pointer (some ⟨B, 0, none⟩), .int .i64 (4)] rfl (fun _ _ => by kernel_rfl)) (d_pick (h.kb hm11.keep (hm11.bx 1 _ _ _ _ rfl)) (by omega) 4 (by omega) (by omega)) (fun d4 a25 w12 hd4 he25 hm12 => ?_)
     clear he24 hm11
     refine wl_val he25 rfl rfl (.int .i64 (((d4 : Nat) : Int))) (rn_move _ (Or.inr rfl) _ (he25.tmp 43 _ rfl)) (fun a26 he26 => ?_)
     clear he25
     refine wl_end ?_
     refine wp_block ?_
     refine wp_loopN (fun mz az wz => (∃ (kk3 : Nat), ∃ (qq3 : Nat), mz = 1 * kk3 ∧ (kk3 ≤ 3 ∧ qq3 + 1 * kk3 ≤ p + 650) ∧ EV az 57 [] [(0, .pointer (some ⟨B, 0, none⟩)), (2, .pointer (some ⟨b2, 0, none⟩)), (8, .pointer (some ⟨B, 0, none⟩)), (9, .slice d1.1 d1.2.1 d1.2.2.1), (10, .pointer (some ⟨B, 0, none⟩)), (11, .slice d2.1 d2.2.1 d2.2.2.1), (12, .agg (#[.slice d1.1 d1.2.1 d1.2.2.1, .string (⟨#[]⟩), .slice d2.1 d2.2.1 d2.2.2.1, .slice none 0 0, .slice none 0 0])), (3, .pointer (some ⟨b3, 0, none⟩)), (13, .slice (some ⟨b4, 0, none⟩) (0) (0)), (5, .int .i64 (((i : Nat) : Int))), (4, .slice (some ⟨ob, 0, none⟩) (on) (oc)), (14, .int .i64 (((i : Nat) : Int))), (15, .bool false), (25, .slice (some ⟨ob, 0, none⟩) (on) (oc)), (26, .string (z0)), (27, .pointer (some ⟨b3, 1, none⟩)), (28, .pointer (some ⟨B, 0, none⟩)), (29, .int .i64 (((d3 : Nat) : Int))), (30, .int .i64 (((1 + d3 : Nat) : Int))), (6, .int .i64 (((kk2 : Nat) : Int))), (31, .int .i64 (((kk2 : Nat) : Int))), (32, .bool false), (42, .pointer (some ⟨B, 0, none⟩)), (43, .int .i64 (((d4 : Nat) : Int))), (7, .int .i64 (((kk3 : Nat) : Int)))] ∧ MM [B] w wz [(1, ⟨true, B, 67, rdA a len cap (qq3)⟩), (2, ⟨true, b2, 44, #[.slice none 0 0, .string (⟨#[]⟩), .slice none 0 0, .slice none 0 0, .slice none 0 0]⟩), (3, ⟨true, b3, 44, #[.slice d1.1 d1.2.1 d1.2.2.1, .string (z0), .slice d2.1 d2.2.1 d2.2.2.1, .slice none 0 0, .slice none 0 0]⟩), (4, ⟨true, ob, 5, oa⟩)]) ∨ (∃ (kk3 : Nat), ∃ (oo3 : List Int), ∃ (nn3 : Nat), ∃ (bb3 : Nat), ∃ (cc3 : Nat), ∃ (aa3 : Array Value), ∃ (qq3 : Nat), mz = 1 * kk3 ∧ (nn3 = (oo3).length ∧ nn3 + kk3 ≤ 3 ∧ Rw (aa3) (nn3) (cc3) 1 (cellsOf i64A (oo3)) ∧ qq3 + 1 * kk3 ≤ p + 650) ∧ EV az 57 [] [(0, .pointer (some ⟨B, 0, none⟩)), (2, .pointer (some ⟨b2, 0, none⟩)), (8, .pointer (some ⟨B, 0, none⟩)), (9, .slice d1.1 d1.2.1 d1.2.2.1), (10, .pointer (some ⟨B, 0, none⟩)), (11, .slice d2.1 d2.2.1 d2.2.2.1), (12, .agg (#[.slice d1.1 d1.2.1 d1.2.2.1, .string (⟨#[]⟩), .slice d2.1 d2.2.1 d2.2.2.1, .slice none 0 0, .slice none 0 0])), (3, .pointer (some ⟨b3, 0, none⟩)), (13, .slice (some ⟨b4, 0, none⟩) (0) (0)), (5, .int .i64 (((i : Nat) : Int))), (4, .slice (some ⟨ob, 0, none⟩) (on) (oc)), (14, .int .i64 (((i : Nat) : Int))), (15, .bool false), (25, .slice (some ⟨ob, 0, none⟩) (on) (oc)), (26, .string (z0)), (27, .pointer (some ⟨b3, 1, none⟩)), (28, .pointer (some ⟨B, 0, none⟩)), (29, .int .i64 (((d3 : Nat) : Int))), (30, .int .i64 (((1 + d3 : Nat) : Int))), (6, .int .i64 (((kk2 : Nat) : Int))), (31, .int .i64 (((kk2 : Nat) : Int))), (32, .bool false), (42, .pointer (some ⟨B, 0, none⟩)), (43, .int .i64 (((d4 : Nat) : Int))), (7, .int .i64 (((kk3 : Nat) : Int)))] ∧ MM [B] w wz [(1, ⟨true, B, 67, rdA a len cap (qq3)⟩), (2, ⟨true, b2, 44, #[.slice none 0 0, .string (⟨#[]⟩), .slice none 0 0, .slice none 0 0, .slice none 0 0]⟩), (3, ⟨true, b3, 44, #[.slice d1.1 d1.2.1 d1.2.2.1, .string (z0), .slice d2.1 d2.2.1 d2.2.2.1, .slice none 0 0, .slice (some ⟨bb3, 0, none⟩) (nn3) (cc3)]⟩), (4, ⟨true, ob, 5, oa⟩), (84, ⟨true, bb3, 3, aa3⟩)])) ⟨_, Or.inl ⟨d4, qq2 + 1, rfl, ⟨by omega, by omega⟩, he26.sub _ ⟨rfl, rfl, rfl, rfl, rfl, rfl, rfl, rfl, rfl, rfl, rfl, rfl, rfl, rfl, rfl, rfl, rfl, rfl, rfl, rfl, rfl, rfl, rfl, rfl, rfl, trivial⟩, hm12.sub _ ⟨rfl, rfl, rfl, rfl, trivial⟩⟩⟩ ?_
     rintro mz3 a27 w13 (⟨kk3, qq3, rfl, hrel3, he27, hm13⟩ | ⟨kk3, oo3, nn3, bb3, cc3, aa3, qq3, rfl, hrel3, he27, hm13⟩)
     ·
      clear he26 hm12
      obtain ⟨hk3, hq3⟩ := hrel3
      refine wp_seq ?_
      refine wp_seqR ?_
      refine wl_val he27 rfl rfl (.int .i64 (((kk3 : Nat) : Int))) (rn_move _ (Or.inl rfl) _ (he27.tmp 7 _ rfl)) (fun a28 he28 => ?_)
      clear he27
      cases hd3 : (decide (((kk3 : Nat) : Int) > 0))
      ·
       have hd3p := of_decide_eq_false hd3
       refine wl_val he28 rfl rfl (.bool false) (rn_bin _ _ _ _ _ rfl .i64 _ _ (he28.tmp 44 _ rfl) rfl (.bool (decide (((kk3 : Nat) : Int) > 0))) _ rfl (congrArg Value.bool (hd3))) (fun a29 he29 => ?_)
       clear he28
       refine wl_end ?_
       refine wp_condF (he := he29) rfl ?_
       refine wp_exit ?_
       refine exit_then ?_
       refine exit_then ?_
       refine exit_here ?_
       refine then_normal ?_
       refine wp_seqR ?_
       refine wl_val he29 rfl rfl (.agg (#[.slice d1.1 d1.2.1 d1.2.2.1, .string (z0), .slice d2.1 d2.2.1 d2.2.2.1, .slice none 0 0, .slice none 0 0])) (rn_loadA hm13 3 rfl _ _ rfl (0) (he29.tmp 3 _ rfl) 5 agg44 (#[.slice d1.1 d1.2.1 d1.2.2.1, .string (z0), .slice d2.1 d2.2.1 d2.2.2.1, .slice none 0 0, .slice none 0 0]) rfl rfl) (fun a30 he30 => ?_)
       clear he29
       refine wl_store he30 hm13 2 rfl rfl rfl _ _ _ rfl (0) (he30.tmp 2 _ rfl) _ (he30.tmp 56 _ rfl) 5 agg44.size rfl (by kernel_rfl) (by simp) (#[.slice d1.1 d1.2.1 d1.2.2.1, .string (z0), .slice d2.1 d2.2.1 d2.2.2.1, .slice none 0 0, .slice none 0 0]) (by kernel_rfl) (fun w14 hm14 => ?_)
       clear hm13
       refine wl_end ?_
       refine wp_ret ?_
       exact bodyPost_ret (results_cell he30 hm14 _ _ Try.results16 _ rfl 2 rfl 5 agg44 (by first | rfl | assumption)) he30.defers ⟨⟨.slice d1.1 d1.2.1 d1.2.2.1, z0, .slice d2.1 d2.2.1 d2.2.2.1, .slice none 0 0, .slice none 0 0, qq3⟩, rfl, ⟨hz12, by show qq3 ≤ p + 700; omega⟩, hm14.keep, hm14.bx 1 _ _ _ _ rfl⟩
      ·
       have hd3p := of_decide_eq_true hd3
       refine wl_val he28 rfl rfl (.bool true) (rn_bin _ _ _ _ _ rfl .i64 _ _ (he28.tmp 44 _ rfl) rfl (.bool (decide (((kk3 : Nat) : Int) > 0))) _ rfl (congrArg Value.bool (hd3))) (fun a29 he29 => ?_)
       clear he28
       refine wl_end ?_
       refine wp_condT (he := he29) rfl ?_
       refine wp_skip ?_
       refine then_normal ?_
       refine wp_seq ?_
       refine wp_block ?_
       refine wh_begin (by kernel_rfl) hm13 [(2, ⟨true, b2, 44, #[.slice none 0 0, .string (⟨#[]⟩), .slice none 0 0, .slice none 0 0, .slice none 0 0]⟩), (4, ⟨true, ob, 5, oa⟩)] ⟨rfl, rfl, trivial⟩ (fun w14 hm14 => ?_)
       clear hm13
       refine tk (fuel := 8) (i := 0) ?_ he29 hm14 ⟨rfl, rfl, trivial⟩ (.pointer (some ⟨b3, 4, none⟩)) ?_ ?_ ?_ ?_ fun a30 he30 => ?_
       rotate_left
       rw [List.getElem?_toArray]; rfl
       exact ⟨by kernel_rfl, by kernel_rfl, by kernel_rfl⟩
       exact ⟨fun _ _ _ _ h => h, rfl, rfl⟩
       exact fun wS hmS => rn_field _ _ _ rfl _ (.pointer (some ⟨b3, 4, none⟩)) (he29.tmp 3 _ rfl) (by kernel_rfl)
       clear he29
       refine tk (fuel := 7) (i := 2) ?_ he30 hm14 ⟨rfl, rfl, trivial⟩ (.pointer (some ⟨B, 0, none⟩)) ?_ ?_ ?_ ?_ fun a31 he31 => ?_
       rotate_left
       rw [List.getElem?_toArray]; rfl
       exact ⟨by kernel_rfl, by kernel_rfl, by kernel_rfl⟩
       exact ⟨fun _ _ _ _ h => h, rfl, rfl⟩
       exact fun wS hmS => rn_move _ (Or.inl rfl) _ (he30.tmp 0 _ rfl)
       clear he30
       refine wpAnyH_ready (fuel := 6) (rs := [1, 3]) ?hr1u00001_1 (by simp) (AllReadyH.cons (o := ?o1u00001_1_0) ?hi1u00001_1_0 ?st1u00001_1_0 (AllReadyH.cons (o := ?o1u00001_1_1) ?hi1u00001_1_1 ?st1u00001_1_1 AllReadyH.nil))
       case hr1u00001_1 => kernel_rfl
       case hi1u00001_1_0 => rw [List.getElem?_toArray]; rfl
       case hi1u00001_1_1 => rw [List.getElem?_toArray]; rfl
       ·
        refine st_val he31 hm14 ⟨rfl, rfl, trivial⟩ rfl rfl (.slice none 0 0) (rn_load1 hm14 3 rfl _ _ rfl (4) (he31.tmp 48 _ rfl) one42 _ rfl) (fun a32 he32 => ?_)
        clear he31
        refine wh_build (i := 3) (op := ?op1d000010_3) (fuel := 5) ?hr1d000010_3 ?hi1d000010_3 he32 hm14 5 rfl ?hd1d000010_3 ?hw1d000010_3 42 6 #[(0, (.const (.int .i64 (0)))), (1, (.const (.int .i64 (1)))), (2, (.const (.int .i64 (2)))), (3, (.const (.int .i64 (3)))), (4, (.const (.int .i64 (7)))), (5, (.const (.int .i64 (9))))] ?ho1d000010_3 #[(0, .int .i64 (0)), (1, .int .i64 (1)), (2, .int .i64 (2)), (3, .int .i64 (3)), (4, .int .i64 (7)), (5, .int .i64 (9))] (by kernel_rfl) 3 (#[.int .i64 (0), .int .i64 (1), .int .i64 (2), .int .i64 (3), .int .i64 (7), .int .i64 (9)]) (fun w => by kernel_rfl) (fun _ => ⟨rfl, rfl, trivial⟩) (fun a33 w15 b5 he33 hm15 => ?k1d000010_3)
        case hi1d000010_3 => rw [List.getElem?_toArray]; rfl
        case hw1d000010_3 => exact rfl
        case hr1d000010_3 => kernel_rfl
        case hd1d000010_3 | ho1d000010_3 => rfl
        clear he32 hm14
        refine wh_callD (i := 4) (op := ?op1d000010_4) (fuel := 4) ?hr1d000010_4 ?hi1d000010_4 he33 hm15 1 rfl ?hd1d000010_4 ?hw1d000010_4 _ #[.pointer (some ⟨B, 0, none⟩), .slice (some ⟨b5, 0, none⟩) (6) (6)] ?en1d000010_4 (d_one (h.kb hm15.keep (hm15.bx 1 _ _ _ _ rfl)) (by omega) b5 [0, 1, 2, 3, 7, 9] _ (hm15.bx 5 _ _ _ _ rfl) rfl (hm15.apart 5 1 _ _ rfl rfl (by decide) rfl) (by decide) (by decide) _ rfl) (fun _ => ⟨rfl, rfl, trivial⟩) (fun d5 a34 w16 hd5 he34 hm16 => ?k1d000010_4)
        case hi1d000010_4 => rw [List.getElem?_toArray]; rfl
        case hw1d000010_4 => exact rfl
        case hr1d000010_4 => kernel_rfl
        case hd1d000010_4 => rfl
        case en1d000010_4 => exact (enter_call _ _ _ rfl 28 #[] #[] rfl #[.pointer (some ⟨B, 0, none⟩), .slice (some ⟨b5, 0, none⟩) (6) (6)] (map2 (he33.tmp 50 _ rfl) (he33.tmp 51 _ rfl)) #[.pointer (some ⟨B, 0, none⟩), .slice (some ⟨b5, 0, none⟩) (6) (6)] rfl (fun _ _ => by kernel_rfl))
        clear he33 hm15
        have hd5b : 0 ≤ d5 ∧ d5 ≤ 4294967295 := by simp at hd5; omega
        obtain ⟨d5n, rfl⟩ := Int.eq_ofNat_of_zero_le hd5b.1
        have hd5c : d5n ≤ 9 := by simp at hd5; omega
        refine wh_build (i := 5) (op := ?op1d000010_5) (fuel := 3) ?hr1d000010_5 ?hi1d000010_5 he34 hm16 6 rfl ?hd1d000010_5 ?hw1d000010_5 42 1 #[(0, (.tmp 52))] ?ho1d000010_5 #[(0, .int .i64 (((d5n : Nat) : Int)))] (pmap1 (he34.tmp 52 _ rfl)) 3 ((cellsOf i64A [((d5n : Nat) : Int)]).toArray) (fun w => by kernel_rfl) (fun _ => ⟨rfl, rfl, trivial⟩) (fun a35 w17 b6 he35 hm17 => ?k1d000010_5)
        case hi1d000010_5 => rw [List.getElem?_toArray]; rfl
        case hw1d000010_5 => exact rfl
        case hr1d000010_5 => kernel_rfl
        case hd1d000010_5 | ho1d000010_5 => rfl
        clear he34 hm16
        have rw6_0 : Rw ((cellsOf i64A [((d5n : Nat) : Int)]).toArray) 1 1 1 (cellsOf i64A ([((d5n : Nat) : Int)])) := Rw.lits i64A.sz [((d5n : Nat) : Int)] (by simp [maxLen])
        refine wh_append0 (i := 6) (op := ?op1d000010_6) (fuel := 2) ?hr1d000010_6 ?hi1d000010_6 he35 hm17 84 rfl ?hd1d000010_6 ?hw1d000010_6 (.tmp 49) (.tmp 53) 42 ?ho1d000010_6 el3 (he35.tmp 49 _ rfl) ⟨b6, 0, none⟩ 1 1 (he35.tmp 53 _ rfl) (by omega) (cellsOf i64A ([((d5n : Nat) : Int)])) (rw6_0.len) (fun j u hu => by rw [Addr.add_mid, Nat.zero_add, (hm17.bx 6 _ _ _ _ rfl).cell]; exact rw6_0.get j u hu) (by simp only [maxLen]; omega) (by omega) (fun _ _ => ⟨rfl, rfl, trivial⟩) (fun a36 w18 b84_36 cap84_36 cur84_36 he36 hm18 rw84_36 => ?k1d000010_6)
        case hi1d000010_6 => rw [List.getElem?_toArray]; rfl
        case hw1d000010_6 => exact rfl
        case hr1d000010_6 => kernel_rfl
        case hd1d000010_6 | ho1d000010_6 => rfl
        clear he35 hm17
        refine tk (fuel := 1) (i := 7) ?_ he36 hm18 ⟨rfl, rfl, trivial⟩ (.pointer (some ⟨b3, 4, none⟩)) ?_ ?_ ?_ ?_ fun a37 he37 => ?_
        rotate_left
        rw [List.getElem?_toArray]; rfl
        exact ⟨by kernel_rfl, by kernel_rfl, by kernel_rfl⟩
        exact ⟨fun _ _ _ _ h => h, rfl, rfl⟩
        exact fun wS hmS => rn_field _ _ _ rfl _ (.pointer (some ⟨b3, 4, none⟩)) (he36.tmp 3 _ rfl) (by kernel_rfl)
        clear he36
        refine wh_store (i := 8) (op := ?op1d000010_8) (fuel := 0) ?hr1d000010_8 ?hi1d000010_8 he37 hm18 3 rfl ?hd1d000010_8 ?hw1d000010_8 42 (.tmp 55) (.tmp 54) ?ho1d000010_8 (4) (he37.tmp 55 _ rfl) _ (he37.tmp 54 _ rfl) 1 one42.size rfl (by kernel_rfl) (by simp) (#[.slice d1.1 d1.2.1 d1.2.2.1, .string (z0), .slice d2.1 d2.2.1 d2.2.2.1, .slice none 0 0, .slice (some ⟨b84_36, 0, none⟩) (1) (cap84_36)]) (by kernel_rfl) ⟨rfl, rfl, trivial⟩ (fun w19 hm19 => ?k1d000010_8)
        case hi1d000010_8 => rw [List.getElem?_toArray]; rfl
        case hw1d000010_8 => exact rfl
        case hr1d000010_8 => kernel_rfl
        case hd1d000010_8 | ho1d000010_8 => rfl
        clear hm18
        refine wpAnyH_done (by kernel_rfl) ?_ _
        refine in_normal ?_
        refine then_normal ?_
        refine wp_region_lit ?_
        refine wl_val he37 rfl rfl (.int .i64 (((kk3 : Nat) : Int))) (rn_move _ (Or.inl rfl) _ (he37.tmp 7 _ rfl)) (fun a38 he38 => ?_)
        clear he37
        refine wl_val he38 rfl rfl (.int .i64 (((kk3 - 1 : Nat) : Int))) (rn_bin _ _ _ _ _ rfl .i64 _ _ (he38.tmp 46 _ rfl) rfl (.int .i64 (IntKind.wrap .i64 (((kk3 : Nat) : Int) - 1))) _ rfl (subN (i := kk3) (c := 1) .i64 (by omega) (by rw [IntKind.wrap_i64]; omega))) (fun a39 he39 => ?_)
        clear he38
        refine wl_val he39 rfl rfl (.int .i64 (((kk3 - 1 : Nat) : Int))) (rn_move _ (Or.inr rfl) _ (he39.tmp 47 _ rfl)) (fun a40 he40 => ?_)
        clear he39
        refine wpList_nil ?_
        exact ⟨1 * (kk3 - 1), by omega, Or.inr ⟨kk3 - 1, [((d5n : Nat) : Int)], 1, b84_36, cap84_36, cur84_36, qq3 + 1, rfl, ⟨by simp, by omega, rw84_36, by omega⟩, he40.sub _ ⟨rfl, rfl, rfl, rfl, rfl, rfl, rfl, rfl, rfl, rfl, rfl, rfl, rfl, rfl, rfl, rfl, rfl, rfl, rfl, rfl, rfl, rfl, rfl, rfl, rfl, trivial⟩, hm19.sub _ ⟨rfl, rfl, rfl, rfl, rfl, trivial⟩⟩⟩
       ·
        refine st_build he31 hm14 5 rfl rfl rfl _ _ _ rfl #[(0, .int .i64 (0)), (1, .int .i64 (1)), (2, .int .i64 (2)), (3, .int .i64 (3)), (4, .int .i64 (7)), (5, .int .i64 (9))] (by kernel_rfl) 3 (#[.int .i64 (0), .int .i64 (1), .int .i64 (2), .int .i64 (3), .int .i64 (7), .int .i64 (9)]) (fun w => by kernel_rfl) (fun _ => ⟨rfl, rfl, trivial⟩) (fun a32 w15 b5 he32 hm15 => ?_)
        clear he31 hm14
        refine wpAnyH_ready (fuel := 5) (rs := [1, 4]) ?hr1u000011_2 (by simp) (AllReadyH.cons (o := ?o1u000011_2_0) ?hi1u000011_2_0 ?st1u000011_2_0 (AllReadyH.cons (o := ?o1u000011_2_1) ?hi1u000011_2_1 ?st1u000011_2_1 AllReadyH.nil))
        case hr1u000011_2 => kernel_rfl
        case hi1u000011_2_0 => rw [List.getElem?_toArray]; rfl
        case hi1u000011_2_1 => rw [List.getElem?_toArray]; rfl
        ·
         refine st_val he32 hm15 ⟨rfl, rfl, trivial⟩ rfl rfl (.slice none 0 0) (rn_load1 hm15 3 rfl _ _ rfl (4) (he32.tmp 48 _ rfl) one42 _ rfl) (fun a33 he33 => ?_)
         clear he32
         refine wh_callD (i := 4) (op := ?op1d0000110_4) (fuel := 4) ?hr1d0000110_4 ?hi1d0000110_4 he33 hm15 1 rfl ?hd1d0000110_4 ?hw1d0000110_4 _ #[.pointer (some ⟨B, 0, none⟩), .slice (some ⟨b5, 0, none⟩) (6) (6)] ?en1d0000110_4 (d_one (h.kb hm15.keep (hm15.bx 1 _ _ _ _ rfl)) (by omega) b5 [0, 1, 2, 3, 7, 9] _ (hm15.bx 5 _ _ _ _ rfl) rfl (hm15.apart 5 1 _ _ rfl rfl (by decide) rfl) (by decide) (by decide) _ rfl) (fun _ => ⟨rfl, rfl, trivial⟩) (fun d5 a34 w16 hd5 he34 hm16 => ?k1d0000110_4)
         case hi1d0000110_4 => rw [List.getElem?_toArray]; rfl
         case hw1d0000110_4 => exact rfl
         case hr1d0000110_4 => kernel_rfl
         case hd1d0000110_4 => rfl
         case en1d0000110_4 => exact (enter_call _ _ _ rfl 28 #[] #[] rfl #[.pointer (some ⟨B, 0, none⟩), .slice (some ⟨b5, 0, none⟩) (6) (6)] (map2 (he33.tmp 50 _ rfl) (he33.tmp 51 _ rfl)) #[.pointer (some ⟨B, 0, none⟩), .slice (some ⟨b5, 0, none⟩) (6) (6)] rfl (fun _ _ => by kernel_rfl))
         clear he33 hm15
         have hd5b : 0 ≤ d5 ∧ d5 ≤ 4294967295 := by simp at hd5; omega
         obtain ⟨d5n, rfl⟩ := Int.eq_ofNat_of_zero_le hd5b.1
         have hd5c : d5n ≤ 9 := by simp at hd5; omega
         refine wh_build (i := 5) (op := ?op1d0000110_5) (fuel := 3) ?hr1d0000110_5 ?hi1d0000110_5 he34 hm16 6 rfl ?hd1d0000110_5 ?hw1d0000110_5 42 1 #[(0, (.tmp 52))] ?ho1d0000110_5 #[(0, .int .i64 (((d5n : Nat) : Int)))] (pmap1 (he34.tmp 52 _ rfl)) 3 ((cellsOf i64A [((d5n : Nat) : Int)]).toArray) (fun w => by kernel_rfl) (fun _ => ⟨rfl, rfl, trivial⟩) (fun a35 w17 b6 he35 hm17 => ?k1d0000110_5)
         case hi1d0000110_5 => rw [List.getElem?_toArray]; rfl
         case hw1d0000110_5 => exact rfl
         case hr1d0000110_5 => kernel_rfl
         case hd1d0000110_5 | ho1d0000110_5 => rfl
         clear he34 hm16
         have rw6_0 : Rw ((cellsOf i64A [((d5n : Nat) : Int)]).toArray) 1 1 1 (cellsOf i64A ([((d5n : Nat) : Int)])) := Rw.lits i64A.sz [((d5n : Nat) : Int)] (by simp [maxLen])
         refine wh_append0 (i := 6) (op := ?op1d0000110_6) (fuel := 2) ?hr1d0000110_6 ?hi1d0000110_6 he35 hm17 84 rfl ?hd1d0000110_6 ?hw1d0000110_6 (.tmp 49) (.tmp 53) 42 ?ho1d0000110_6 el3 (he35.tmp 49 _ rfl) ⟨b6, 0, none⟩ 1 1 (he35.tmp 53 _ rfl) (by omega) (cellsOf i64A ([((d5n : Nat) : Int)])) (rw6_0.len) (fun j u hu => by rw [Addr.add_mid, Nat.zero_add, (hm17.bx 6 _ _ _ _ rfl).cell]; exact rw6_0.get j u hu) (by simp only [maxLen]; omega) (by omega) (fun _ _ => ⟨rfl, rfl, trivial⟩) (fun a36 w18 b84_36 cap84_36 cur84_36 he36 hm18 rw84_36 => ?k1d0000110_6)
         case hi1d0000110_6 => rw [List.getElem?_toArray]; rfl
         case hw1d0000110_6 => exact rfl
         case hr1d0000110_6 => kernel_rfl
         case hd1d0000110_6 | ho1d0000110_6 => rfl
         clear he35 hm17
         refine tk (fuel := 1) (i := 7) ?_ he36 hm18 ⟨rfl, rfl, trivial⟩ (.pointer (some ⟨b3, 4, none⟩)) ?_ ?_ ?_ ?_ fun a37 he37 => ?_
         rotate_left
         rw [List.getElem?_toArray]; rfl
         exact ⟨by kernel_rfl, by kernel_rfl, by kernel_rfl⟩
         exact ⟨fun _ _ _ _ h => h, rfl, rfl⟩
         exact fun wS hmS => rn_field _ _ _ rfl _ (.pointer (some ⟨b3, 4, none⟩)) (he36.tmp 3 _ rfl) (by kernel_rfl)
         clear he36
         refine wh_store (i := 8) (op := ?op1d0000110_8) (fuel := 0) ?hr1d0000110_8 ?hi1d0000110_8 he37 hm18 3 rfl ?hd1d0000110_8 ?hw1d0000110_8 42 (.tmp 55) (.tmp 54) ?ho1d0000110_8 (4) (he37.tmp 55 _ rfl) _ (he37.tmp 54 _ rfl) 1 one42.size rfl (by kernel_rfl) (by simp) (#[.slice d1.1 d1.2.1 d1.2.2.1, .string (z0), .slice d2.1 d2.2.1 d2.2.2.1, .slice none 0 0, .slice (some ⟨b84_36, 0, none⟩) (1) (cap84_36)]) (by kernel_rfl) ⟨rfl, rfl, trivial⟩ (fun w19 hm19 => ?k1d0000110_8)
         case hi1d0000110_8 => rw [List.getElem?_toArray]; rfl
         case hw1d0000110_8 => exact rfl
         case hr1d0000110_8 => kernel_rfl
         case hd1d0000110_8 | ho1d0000110_8 => rfl
         clear hm18
         refine wpAnyH_done (by kernel_rfl) ?_ _
         refine in_normal ?_
         refine then_normal ?_
         refine wp_region_lit ?_
         refine wl_val he37 rfl rfl (.int .i64 (((kk3 : Nat) : Int))) (rn_move _ (Or.inl rfl) _ (he37.tmp 7 _ rfl)) (fun a38 he38 => ?_)
         clear he37
         refine wl_val he38 rfl rfl (.int .i64 (((kk3 - 1 : Nat) : Int))) (rn_bin _ _ _ _ _ rfl .i64 _ _ (he38.tmp 46 _ rfl) rfl (.int .i64 (IntKind.wrap .i64 (((kk3 : Nat) : Int) - 1))) _ rfl (subN (i := kk3) (c := 1) .i64 (by omega) (by rw [IntKind.wrap_i64]; omega))) (fun a39 he39 => ?_)
         clear he38
         refine wl_val he39 rfl rfl (.int .i64 (((kk3 - 1 : Nat) : Int))) (rn_move _ (Or.inr rfl) _ (he39.tmp 47 _ rfl)) (fun a40 he40 => ?_)
         clear he39
         refine wpList_nil ?_
         exact ⟨1 * (kk3 - 1), by omega, Or.inr ⟨kk3 - 1, [((d5n : Nat) : Int)], 1, b84_36, cap84_36, cur84_36, qq3 + 1, rfl, ⟨by simp, by omega, rw84_36, by omega⟩, he40.sub _ ⟨rfl, rfl, rfl, rfl, rfl, rfl, rfl, rfl, rfl, rfl, rfl, rfl, rfl, rfl, rfl, rfl, rfl, rfl, rfl, rfl, rfl, rfl, rfl, rfl, rfl, trivial⟩, hm19.sub _ ⟨rfl, rfl, rfl, rfl, rfl, trivial⟩⟩⟩
        ·
         refine st_callD he32 hm15 1 rfl (fun _ => ⟨rfl, rfl, trivial⟩) rfl rfl _ #[.pointer (some ⟨B, 0, none⟩), .slice (some ⟨b5, 0, none⟩) (6) (6)] (enter_call _ _ _ rfl 28 #[] #[] rfl #[.pointer (some ⟨B, 0, none⟩), .slice (some ⟨b5, 0, none⟩) (6) (6)] (map2 (he32.tmp 50 _ rfl) (he32.tmp 51 _ rfl)) #[.pointer (some ⟨B, 0, none⟩), .slice (some ⟨b5, 0, none⟩) (6) (6)] rfl (fun _ _ => by kernel_rfl)) (d_one (h.kb hm15.keep (hm15.bx 1 _ _ _ _ rfl)) (by omega) b5 [0, 1, 2, 3, 7, 9] _ (hm15.bx 5 _ _ _ _ rfl) rfl (hm15.apart 5 1 _ _ rfl rfl (by decide) rfl) (by decide) (by decide) _ rfl) (fun d5 a33 w16 hd5 he33 hm16 => ?_)
         clear he32 hm15
         have hd5b : 0 ≤ d5 ∧ d5 ≤ 4294967295 := by simp at hd5; omega
         obtain ⟨d5n, rfl⟩ := Int.eq_ofNat_of_zero_le hd5b.1
         have hd5c : d5n ≤ 9 := by simp at hd5; omega
         refine wpAnyH_ready (fuel := 4) (rs := [1, 5]) ?hr1u0000111_3 (by simp) (AllReadyH.cons (o := ?o1u0000111_3_0) ?hi1u0000111_3_0 ?st1u0000111_3_0 (AllReadyH.cons (o := ?o1u0000111_3_1) ?hi1u0000111_3_1 ?st1u0000111_3_1 AllReadyH.nil))
         case hr1u0000111_3 => kernel_rfl
         case hi1u0000111_3_0 => rw [List.getElem?_toArray]; rfl
         case hi1u0000111_3_1 => rw [List.getElem?_toArray]; rfl
         ·
          refine st_val he33 hm16 ⟨rfl, rfl, trivial⟩ rfl rfl (.slice none 0 0) (rn_load1 hm16 3 rfl _ _ rfl (4) (he33.tmp 48 _ rfl) one42 _ rfl) (fun a34 he34 => ?_)
          clear he33
          refine wh_build (i := 5) (op := ?op1d00001110_5) (fuel := 3) ?hr1d00001110_5 ?hi1d00001110_5 he34 hm16 6 rfl ?hd1d00001110_5 ?hw1d00001110_5 42 1 #[(0, (.tmp 52))] ?ho1d00001110_5 #[(0, .int .i64 (((d5n : Nat) : Int)))] (pmap1 (he34.tmp 52 _ rfl)) 3 ((cellsOf i64A [((d5n : Nat) : Int)]).toArray) (fun w => by kernel_rfl) (fun _ => ⟨rfl, rfl, trivial⟩) (fun a35 w17 b6 he35 hm17 => ?k1d00001110_5)
          case hi1d00001110_5 => rw [List.getElem?_toArray]; rfl
          case hw1d00001110_5 => exact rfl
          case hr1d00001110_5 => kernel_rfl
          case hd1d00001110_5 | ho1d00001110_5 => rfl
          clear he34 hm16
          have rw6_0 : Rw ((cellsOf i64A [((d5n : Nat) : Int)]).toArray) 1 1 1 (cellsOf i64A ([((d5n : Nat) : Int)])) := Rw.lits i64A.sz [((d5n : Nat) : Int)] (by simp [maxLen])
          refine wh_append0 (i := 6) (op := ?op1d00001110_6) (fuel := 2) ?hr1d00001110_6 ?hi1d00001110_6 he35 hm17 84 rfl ?hd1d00001110_6 ?hw1d00001110_6 (.tmp 49) (.tmp 53) 42 ?ho1d00001110_6 el3 (he35.tmp 49 _ rfl) ⟨b6, 0, none⟩ 1 1 (he35.tmp 53 _ rfl) (by omega) (cellsOf i64A ([((d5n : Nat) : Int)])) (rw6_0.len) (fun j u hu => by rw [Addr.add_mid, Nat.zero_add, (hm17.bx 6 _ _ _ _ rfl).cell]; exact rw6_0.get j u hu) (by simp only [maxLen]; omega) (by omega) (fun _ _ => ⟨rfl, rfl, trivial⟩) (fun a36 w18 b84_36 cap84_36 cur84_36 he36 hm18 rw84_36 => ?k1d00001110_6)
          case hi1d00001110_6 => rw [List.getElem?_toArray]; rfl
          case hw1d00001110_6 => exact rfl
          case hr1d00001110_6 => kernel_rfl
          case hd1d00001110_6 | ho1d00001110_6 => rfl
          clear he35 hm17
          refine tk (fuel := 1) (i := 7) ?_ he36 hm18 ⟨rfl, rfl, trivial⟩ (.pointer (some ⟨b3, 4, none⟩)) ?_ ?_ ?_ ?_ fun a37 he37 => ?_
          rotate_left
          rw [List.getElem?_toArray]; rfl
          exact ⟨by kernel_rfl, by kernel_rfl, by kernel_rfl⟩
          exact ⟨fun _ _ _ _ h => h, rfl, rfl⟩
          exact fun wS hmS => rn_field _ _ _ rfl _ (.pointer (some ⟨b3, 4, none⟩)) (he36.tmp 3 _ rfl) (by kernel_rfl)
          clear he36
          refine wh_store (i := 8) (op := ?op1d00001110_8) (fuel := 0) ?hr1d00001110_8 ?hi1d00001110_8 he37 hm18 3 rfl ?hd1d00001110_8 ?hw1d00001110_8 42 (.tmp 55) (.tmp 54) ?ho1d00001110_8 (4) (he37.tmp 55 _ rfl) _ (he37.tmp 54 _ rfl) 1 one42.size rfl (by kernel_rfl) (by simp) (#[.slice d1.1 d1.2.1 d1.2.2.1, .string (z0), .slice d2.1 d2.2.1 d2.2.2.1, .slice none 0 0, .slice (some ⟨b84_36, 0, none⟩) (1) (cap84_36)]) (by kernel_rfl) ⟨rfl, rfl, trivial⟩ (fun w19 hm19 => ?k1d00001110_8)
          case hi1d00001110_8 => rw [List.getElem?_toArray]; rfl
          case hw1d00001110_8 => exact rfl
          case hr1d00001110_8 => kernel_rfl
          case hd1d00001110_8 | ho1d00001110_8 => rfl
          clear hm18
          refine wpAnyH_done (by kernel_rfl) ?_ _
          refine in_normal ?_
          refine then_normal ?_
          refine wp_region_lit ?_
          refine wl_val he37 rfl rfl (.int .i64 (((kk3 : Nat) : Int))) (rn_move _ (Or.inl rfl) _ (he37.tmp 7 _ rfl)) (fun a38 he38 => ?_)
          clear he37
          refine wl_val he38 rfl rfl (.int .i64 (((kk3 - 1 : Nat) : Int))) (rn_bin _ _ _ _ _ rfl .i64 _ _ (he38.tmp 46 _ rfl) rfl (.int .i64 (IntKind.wrap .i64 (((kk3 : Nat) : Int) - 1))) _ rfl (subN (i := kk3) (c := 1) .i64 (by omega) (by rw [IntKind.wrap_i64]; omega))) (fun a39 he39 => ?_)
          clear he38
          refine wl_val he39 rfl rfl (.int .i64 (((kk3 - 1 : Nat) : Int))) (rn_move _ (Or.inr rfl) _ (he39.tmp 47 _ rfl)) (fun a40 he40 => ?_)
          clear he39
          refine wpList_nil ?_
          exact ⟨1 * (kk3 - 1), by omega, Or.inr ⟨kk3 - 1, [((d5n : Nat) : Int)], 1, b84_36, cap84_36, cur84_36, qq3 + 1, rfl, ⟨by simp, by omega, rw84_36, by omega⟩, he40.sub _ ⟨rfl, rfl, rfl, rfl, rfl, rfl, rfl, rfl, rfl, rfl, rfl, rfl, rfl, rfl, rfl, rfl, rfl, rfl, rfl, rfl, rfl, rfl, rfl, rfl, rfl, trivial⟩, hm19.sub _ ⟨rfl, rfl, rfl, rfl, rfl, trivial⟩⟩⟩
         ·
          refine st_build he33 hm16 6 rfl rfl rfl _ _ _ rfl #[(0, .int .i64 (((d5n : Nat) : Int)))] (pmap1 (he33.tmp 52 _ rfl)) 3 ((cellsOf i64A [((d5n : Nat) : Int)]).toArray) (fun w => by kernel_rfl) (fun _ => ⟨rfl, rfl, trivial⟩) (fun a34 w17 b6 he34 hm17 => ?_)
          clear he33 hm16
          have rw6_0 : Rw ((cellsOf i64A [((d5n : Nat) : Int)]).toArray) 1 1 1 (cellsOf i64A ([((d5n : Nat) : Int)])) := Rw.lits i64A.sz [((d5n : Nat) : Int)] (by simp [maxLen])
          refine wpAnyH_ready (fuel := 3) (rs := [1]) ?hr1u00001111_4 (by simp) (AllReadyH.cons (o := ?o1u00001111_4_0) ?hi1u00001111_4_0 ?st1u00001111_4_0 AllReadyH.nil)
          case hr1u00001111_4 => kernel_rfl
          case hi1u00001111_4_0 => rw [List.getElem?_toArray]; rfl
          refine st_val he34 hm17 ⟨rfl, rfl, trivial⟩ rfl rfl (.slice none 0 0) (rn_load1 hm17 3 rfl _ _ rfl (4) (he34.tmp 48 _ rfl) one42 _ rfl) (fun a35 he35 => ?_)
          clear he34
          refine wh_append0 (i := 6) (op := ?op1d00001111_6) (fuel := 2) ?hr1d00001111_6 ?hi1d00001111_6 he35 hm17 84 rfl ?hd1d00001111_6 ?hw1d00001111_6 (.tmp 49) (.tmp 53) 42 ?ho1d00001111_6 el3 (he35.tmp 49 _ rfl) ⟨b6, 0, none⟩ 1 1 (he35.tmp 53 _ rfl) (by omega) (cellsOf i64A ([((d5n : Nat) : Int)])) (rw6_0.len) (fun j u hu => by rw [Addr.add_mid, Nat.zero_add, (hm17.bx 6 _ _ _ _ rfl).cell]; exact rw6_0.get j u hu) (by simp only [maxLen]; omega) (by omega) (fun _ _ => ⟨rfl, rfl, trivial⟩) (fun a36 w18 b84_36 cap84_36 cur84_36 he36 hm18 rw84_36 => ?k1d00001111_6)
          case hi1d00001111_6 => rw [List.getElem?_toArray]; rfl
          case hw1d00001111_6 => exact rfl
          case hr1d00001111_6 => kernel_rfl
          case hd1d00001111_6 | ho1d00001111_6 => rfl
          clear he35 hm17
          refine tk (fuel := 1) (i := 7) ?_ he36 hm18 ⟨rfl, rfl, trivial⟩ (.pointer (some ⟨b3, 4, none⟩)) ?_ ?_ ?_ ?_ fun a37 he37 => ?_
          rotate_left
          rw [List.getElem?_toArray]; rfl
          exact ⟨by kernel_rfl, by kernel_rfl, by kernel_rfl⟩
          exact ⟨fun _ _ _ _ h => h, rfl, rfl⟩
          exact fun wS hmS => rn_field _ _ _ rfl _ (.pointer (some ⟨b3, 4, none⟩)) (he36.tmp 3 _ rfl) (by kernel_rfl)
          clear he36
          refine wh_store (i := 8) (op := ?op1d00001111_8) (fuel := 0) ?hr1d00001111_8 ?hi1d00001111_8 he37 hm18 3 rfl ?hd1d00001111_8 ?hw1d00001111_8 42 (.tmp 55) (.tmp 54) ?ho1d00001111_8 (4) (he37.tmp 55 _ rfl) _ (he37.tmp 54 _ rfl) 1 one42.size rfl (by kernel_rfl) (by simp) (#[.slice d1.1 d1.2.1 d1.2.2.1, .string (z0), .slice d2.1 d2.2.1 d2.2.2.1, .slice none 0 0, .slice (some ⟨b84_36, 0, none⟩) (1) (cap84_36)]) (by kernel_rfl) ⟨rfl, rfl, trivial⟩ (fun w19 hm19 => ?k1d00001111_8)
          case hi1d00001111_8 => rw [List.getElem?_toArray]; rfl
          case hw1d00001111_8 => exact rfl
          case hr1d00001111_8 => kernel_rfl
          case hd1d00001111_8 | ho1d00001111_8 => rfl
          clear hm18
          refine wpAnyH_done (by kernel_rfl) ?_ _
          refine in_normal ?_
          refine then_normal ?_
          refine wp_region_lit ?_
          refine wl_val he37 rfl rfl (.int .i64 (((kk3 : Nat) : Int))) (rn_move _ (Or.inl rfl) _ (he37.tmp 7 _ rfl)) (fun a38 he38 => ?_)
          clear he37
          refine wl_val he38 rfl rfl (.int .i64 (((kk3 - 1 : Nat) : Int))) (rn_bin _ _ _ _ _ rfl .i64 _ _ (he38.tmp 46 _ rfl) rfl (.int .i64 (IntKind.wrap .i64 (((kk3 : Nat) : Int) - 1))) _ rfl (subN (i := kk3) (c := 1) .i64 (by omega) (by rw [IntKind.wrap_i64]; omega))) (fun a39 he39 => ?_)
          clear he38
          refine wl_val he39 rfl rfl (.int .i64 (((kk3 - 1 : Nat) : Int))) (rn_move _ (Or.inr rfl) _ (he39.tmp 47 _ rfl)) (fun a40 he40 => ?_)
          clear he39
          refine wpList_nil ?_
          exact ⟨1 * (kk3 - 1), by omega, Or.inr ⟨kk3 - 1, [((d5n : Nat) : Int)], 1, b84_36, cap84_36, cur84_36, qq3 + 1, rfl, ⟨by simp, by omega, rw84_36, by omega⟩, he40.sub _ ⟨rfl, rfl, rfl, rfl, rfl, rfl, rfl, rfl, rfl, rfl, rfl, rfl, rfl, rfl, rfl, rfl, rfl, rfl, rfl, rfl, rfl, rfl, rfl, rfl, rfl, trivial⟩, hm19.sub _ ⟨rfl, rfl, rfl, rfl, rfl, trivial⟩⟩⟩
     ·
      clear he26 hm12
      obtain ⟨hn3, hk3, rw3o, hq3⟩ := hrel3
      refine wp_seq ?_
      refine wp_seqR ?_
      refine wl_val he27 rfl rfl (.int .i64 (((kk3 : Nat) : Int))) (rn_move _ (Or.inl rfl) _ (he27.tmp 7 _ rfl)) (fun a28 he28 => ?_)
      clear he27
      cases hd3 : (decide (((kk3 : Nat) : Int) > 0))
      ·
       have hd3p := of_decide_eq_false hd3
       refine wl_val he28 rfl rfl (.bool false) (rn_bin _ _ _ _ _ rfl .i64 _ _ (he28.tmp 44 _ rfl) rfl (.bool (decide (((kk3 : Nat) : Int) > 0))) _ rfl (congrArg Value.bool (hd3))) (fun a29 he29 => ?_)
       clear he28
       refine wl_end ?_
       refine wp_condF (he := he29) rfl ?_
       refine wp_exit ?_
       refine exit_then ?_
       refine exit_then ?_
       refine exit_here ?_
       refine then_normal ?_
       refine wp_seqR ?_
       refine wl_val he29 rfl rfl (.agg (#[.slice d1.1 d1.2.1 d1.2.2.1, .string (z0), .slice d2.1 d2.2.1 d2.2.2.1, .slice none 0 0, .slice (some ⟨bb3, 0, none⟩) (nn3) (cc3)])) (rn_loadA hm13 3 rfl _ _ rfl (0) (he29.tmp 3 _ rfl) 5 agg44 (#[.slice d1.1 d1.2.1 d1.2.2.1, .string (z0), .slice d2.1 d2.2.1 d2.2.2.1, .slice none 0 0, .slice (some ⟨bb3, 0, none⟩) (nn3) (cc3)]) rfl rfl) (fun a30 he30 => ?_)
       clear he29
       refine wl_store he30 hm13 2 rfl rfl rfl _ _ _ rfl (0) (he30.tmp 2 _ rfl) _ (he30.tmp 56 _ rfl) 5 agg44.size rfl (by kernel_rfl) (by simp) (#[.slice d1.1 d1.2.1 d1.2.2.1, .string (z0), .slice d2.1 d2.2.1 d2.2.2.1, .slice none 0 0, .slice (some ⟨bb3, 0, none⟩) (nn3) (cc3)]) (by kernel_rfl) (fun w14 hm14 => ?_)
       clear hm13
       refine wl_end ?_
       refine wp_ret ?_
       exact bodyPost_ret (results_cell he30 hm14 _ _ Try.results16 _ rfl 2 rfl 5 agg44 (by first | rfl | assumption)) he30.defers ⟨⟨.slice d1.1 d1.2.1 d1.2.2.1, z0, .slice d2.1 d2.2.1 d2.2.2.1, .slice none 0 0, .slice (some ⟨bb3, 0, none⟩) (nn3) (cc3), qq3⟩, rfl, ⟨hz12, by show qq3 ≤ p + 700; omega⟩, hm14.keep, hm14.bx 1 _ _ _ _ rfl⟩
      ·
       have hd3p := of_decide_eq_true hd3
       refine wl_val he28 rfl rfl (.bool true) (rn_bin _ _ _ _ _ rfl .i64 _ _ (he28.tmp 44 _ rfl) rfl (.bool (decide (((kk3 : Nat) : Int) > 0))) _ rfl (congrArg Value.bool (hd3))) (fun a29 he29 => ?_)
       clear he28
       refine wl_end ?_
       refine wp_condT (he := he29) rfl ?_
       refine wp_skip ?_
       refine then_normal ?_
       refine wp_seq ?_
       refine wp_block ?_
       refine wh_begin (by kernel_rfl) hm13 [(2, ⟨true, b2, 44, #[.slice none 0 0, .string (⟨#[]⟩), .slice none 0 0, .slice none 0 0, .slice none 0 0]⟩), (4, ⟨true, ob, 5, oa⟩)] ⟨rfl, rfl, trivial⟩ (fun w14 hm14 => ?_)
       clear hm13
       refine tk (fuel := 8) (i := 0) ?_ he29 hm14 ⟨rfl, rfl, trivial⟩ (.pointer (some ⟨b3, 4, none⟩)) ?_ ?_ ?_ ?_ fun a30 he30 => ?_
       rotate_left
       rw [List.getElem?_toArray]; rfl
       exact ⟨by kernel_rfl, by kernel_rfl, by kernel_rfl⟩
       exact ⟨fun _ _ _ _ h => h, rfl, rfl⟩
       exact fun wS hmS => rn_field _ _ _ rfl _ (.pointer (some ⟨b3, 4, none⟩)) (he29.tmp 3 _ rfl) (by kernel_rfl)
       clear he29
       refine tk (fuel := 7) (i := 2) ?_ he30 hm14 ⟨rfl, rfl, trivial⟩ (.pointer (some ⟨B, 0, none⟩)) ?_ ?_ ?_ ?_ fun a31 he31 => ?_
       rotate_left
       rw [List.getElem?_toArray]; rfl
       exact ⟨by kernel_rfl, by kernel_rfl, by kernel_rfl⟩
       exact ⟨fun _ _ _ _ h => h, rfl, rfl⟩
       exact fun wS hmS => rn_move _ (Or.inl rfl) _ (he30.tmp 0 _ rfl)
       clear he30
       refine wpAnyH_ready (fuel := 6) (rs := [1, 3]) ?hr1u00011_1 (by simp) (AllReadyH.cons (o := ?o1u00011_1_0) ?hi1u00011_1_0 ?st1u00011_1_0 (AllReadyH.cons (o := ?o1u00011_1_1) ?hi1u00011_1_1 ?st1u00011_1_1 AllReadyH.nil))
       case hr1u00011_1 => kernel_rfl
       case hi1u00011_1_0 => rw [List.getElem?_toArray]; rfl
       case hi1u00011_1_1 => rw [List.getElem?_toArray]; rfl
       ·
        refine st_val he31 hm14 ⟨rfl, rfl, trivial⟩ rfl rfl (.slice (some ⟨bb3, 0, none⟩) (nn3) (cc3)) (rn_load1 hm14 3 rfl _ _ rfl (4) (he31.tmp 48 _ rfl) one42 _ rfl) (fun a32 he32 => ?_)
        clear he31
        refine wh_build (i := 3) (op := ?op1d000110_3) (fuel := 5) ?hr1d000110_3 ?hi1d000110_3 he32 hm14 5 rfl ?hd1d000110_3 ?hw1d000110_3 42 6 #[(0, (.const (.int .i64 (0)))), (1, (.const (.int .i64 (1)))), (2, (.const (.int .i64 (2)))), (3, (.const (.int .i64 (3)))), (4, (.const (.int .i64 (7)))), (5, (.const (.int .i64 (9))))] ?ho1d000110_3 #[(0, .int .i64 (0)), (1, .int .i64 (1)), (2, .int .i64 (2)), (3, .int .i64 (3)), (4, .int .i64 (7)), (5, .int .i64 (9))] (by kernel_rfl) 3 (#[.int .i64 (0), .int .i64 (1), .int .i64 (2), .int .i64 (3), .int .i64 (7), .int .i64 (9)]) (fun w => by kernel_rfl) (fun _ => ⟨rfl, rfl, trivial⟩) (fun a33 w15 b5 he33 hm15 => ?k1d000110_3)
        case hi1d000110_3 => rw [List.getElem?_toArray]; rfl
        case hw1d000110_3 => exact rfl
        case hr1d000110_3 => kernel_rfl
        case hd1d000110_3 | ho1d000110_3 => rfl
        clear he32 hm14
        refine wh_callD (i := 4) (op := ?op1d000110_4) (fuel := 4) ?hr1d000110_4 ?hi1d000110_4 he33 hm15 1 rfl ?hd1d000110_4 ?hw1d000110_4 _ #[.pointer (some ⟨B, 0, none⟩), .slice (some ⟨b5, 0, none⟩) (6) (6)] ?en1d000110_4 (d_one (h.kb hm15.keep (hm15.bx 1 _ _ _ _ rfl)) (by omega) b5 [0, 1, 2, 3, 7, 9] _ (hm15.bx 5 _ _ _ _ rfl) rfl (hm15.apart 5 1 _ _ rfl rfl (by decide) rfl) (by decide) (by decide) _ rfl) (fun _ => ⟨rfl, rfl, trivial⟩) (fun d5 a34 w16 hd5 he34 hm16 => ?k1d000110_4)
        case hi1d000110_4 => rw [List.getElem?_toArray]; rfl
        case hw1d000110_4 => exact rfl
        case hr1d000110_4 => kernel_rfl
        case hd1d000110_4 => rfl
        case en1d000110_4 => exact (enter_call _ _ _ rfl 28 #[] #[] rfl #[.pointer (some ⟨B, 0, none⟩), .slice (some ⟨b5, 0, none⟩) (6) (6)] (map2 (he33.tmp 50 _ rfl) (he33.tmp 51 _ rfl)) #[.pointer (some ⟨B, 0, none⟩), .slice (some ⟨b5, 0, none⟩) (6) (6)] rfl (fun _ _ => by kernel_rfl))
        clear he33 hm15
        have hd5b : 0 ≤ d5 ∧ d5 ≤ 4294967295 := by simp at hd5; omega
        obtain ⟨d5n, rfl⟩ := Int.eq_ofNat_of_zero_le hd5b.1
        have hd5c : d5n ≤ 9 := by simp at hd5; omega
        refine wh_build (i := 5) (op := ?op1d000110_5) (fuel := 3) ?hr1d000110_5 ?hi1d000110_5 he34 hm16 6 rfl ?hd1d000110_5 ?hw1d000110_5 42 1 #[(0, (.tmp 52))] ?ho1d000110_5 #[(0, .int .i64 (((d5n : Nat) : Int)))] (pmap1 (he34.tmp 52 _ rfl)) 3 ((cellsOf i64A [((d5n : Nat) : Int)]).toArray) (fun w => by kernel_rfl) (fun _ => ⟨rfl, rfl, trivial⟩) (fun a35 w17 b6 he35 hm17 => ?k1d000110_5)
        case hi1d000110_5 => rw [List.getElem?_toArray]; rfl
        case hw1d000110_5 => exact rfl
        case hr1d000110_5 => kernel_rfl
        case hd1d000110_5 | ho1d000110_5 => rfl
        clear he34 hm16
        have rw6_0 : Rw ((cellsOf i64A [((d5n : Nat) : Int)]).toArray) 1 1 1 (cellsOf i64A ([((d5n : Nat) : Int)])) := Rw.lits i64A.sz [((d5n : Nat) : Int)] (by simp [maxLen])
        refine wh_append (k := nn3) (cap := cc3) (i := 6) (op := ?op1d000110_6) (fuel := 2) ?hr1d000110_6 ?hi1d000110_6 he35 hm17 84 rfl ?hd1d000110_6 ?hw1d000110_6 (.tmp 49) (.tmp 53) 42 ?ho1d000110_6 el3 (he35.tmp 49 _ rfl) rw3o ⟨b6, 0, none⟩ 1 1 (he35.tmp 53 _ rfl) (cellsOf i64A ([((d5n : Nat) : Int)])) (rw6_0.len) (fun j u hu => by rw [Addr.add_mid, Nat.zero_add, (hm17.bx 6 _ _ _ _ rfl).cell]; exact rw6_0.get j u hu) (cellsOf_one i64A.one _) (by simp only [maxLen]; omega) (by omega) (fun _ _ => ⟨rfl, rfl, trivial⟩) (fun a36 w18 b84_36 cap84_36 cur84_36 he36 hm18 rw84_36 => ?k1d000110_6)
        case hi1d000110_6 => rw [List.getElem?_toArray]; rfl
        case hw1d000110_6 => exact rfl
        case hr1d000110_6 => kernel_rfl
        case hd1d000110_6 | ho1d000110_6 => rfl
        clear he35 hm17
        replace rw84_36 := rw84_36.app
        refine tk (fuel := 1) (i := 7) ?_ he36 hm18 ⟨rfl, rfl, trivial⟩ (.pointer (some ⟨b3, 4, none⟩)) ?_ ?_ ?_ ?_ fun a37 he37 => ?_
        rotate_left
        rw [List.getElem?_toArray]; rfl
        exact ⟨by kernel_rfl, by kernel_rfl, by kernel_rfl⟩
        exact ⟨fun _ _ _ _ h => h, rfl, rfl⟩
        exact fun wS hmS => rn_field _ _ _ rfl _ (.pointer (some ⟨b3, 4, none⟩)) (he36.tmp 3 _ rfl) (by kernel_rfl)
        clear he36
        refine wh_store (i := 8) (op := ?op1d000110_8) (fuel := 0) ?hr1d000110_8 ?hi1d000110_8 he37 hm18 3 rfl ?hd1d000110_8 ?hw1d000110_8 42 (.tmp 55) (.tmp 54) ?ho1d000110_8 (4) (he37.tmp 55 _ rfl) _ (he37.tmp 54 _ rfl) 1 one42.size rfl (by kernel_rfl) (by simp) (#[.slice d1.1 d1.2.1 d1.2.2.1, .string (z0), .slice d2.1 d2.2.1 d2.2.2.1, .slice none 0 0, .slice (some ⟨b84_36, 0, none⟩) (nn3 + 1) (cap84_36)]) (by kernel_rfl) ⟨rfl, rfl, trivial⟩ (fun w19 hm19 => ?k1d000110_8)
        case hi1d000110_8 => rw [List.getElem?_toArray]; rfl
        case hw1d000110_8 => exact rfl
        case hr1d000110_8 => kernel_rfl
        case hd1d000110_8 | ho1d000110_8 => rfl
        clear hm18
        refine wpAnyH_done (by kernel_rfl) ?_ _
        refine in_normal ?_
        refine then_normal ?_
        refine wp_region_lit ?_
        refine wl_val he37 rfl rfl (.int .i64 (((kk3 : Nat) : Int))) (rn_move _ (Or.inl rfl) _ (he37.tmp 7 _ rfl)) (fun a38 he38 => ?_)
        clear he37
        refine wl_val he38 rfl rfl (.int .i64 (((kk3 - 1 : Nat) : Int))) (rn_bin _ _ _ _ _ rfl .i64 _ _ (he38.tmp 46 _ rfl) rfl (.int .i64 (IntKind.wrap .i64 (((kk3 : Nat) : Int) - 1))) _ rfl (subN (i := kk3) (c := 1) .i64 (by omega) (by rw [IntKind.wrap_i64]; omega))) (fun a39 he39 => ?_)
        clear he38
        refine wl_val he39 rfl rfl (.int .i64 (((kk3 - 1 : Nat) : Int))) (rn_move _ (Or.inr rfl) _ (he39.tmp 47 _ rfl)) (fun a40 he40 => ?_)
        clear he39
        refine wpList_nil ?_
        exact ⟨1 * (kk3 - 1), by omega, Or.inr ⟨kk3 - 1, (oo3) ++ ([((d5n : Nat) : Int)]), nn3 + 1, b84_36, cap84_36, cur84_36, qq3 + 1, rfl, ⟨by simp [hn3], by omega, rw84_36, by omega⟩, he40.sub _ ⟨rfl, rfl, rfl, rfl, rfl, rfl, rfl, rfl, rfl, rfl, rfl, rfl, rfl, rfl, rfl, rfl, rfl, rfl, rfl, rfl, rfl, rfl, rfl, rfl, rfl, trivial⟩, hm19.sub _ ⟨rfl, rfl, rfl, rfl, rfl, trivial⟩⟩⟩
       ·
        refine st_build he31 hm14 5 rfl rfl rfl _ _ _ rfl #[(0, .int .i64 (0)), (1, .int .i64 (1)), (2, .int .i64 (2)), (3, .int .i64 (3)), (4, .int .i64 (7)), (5, .int .i64 (9))] (by kernel_rfl) 3 (#[.int .i64 (0), .int .i64 (1), .int .i64 (2), .int .i64 (3), .int .i64 (7), .int .i64 (9)]) (fun w => by kernel_rfl) (fun _ => ⟨rfl, rfl, trivial⟩) (fun a32 w15 b5 he32 hm15 => ?_)
        clear he31 hm14
        refine wpAnyH_ready (fuel := 5) (rs := [1, 4]) ?hr1u000111_2 (by simp) (AllReadyH.cons (o := ?o1u000111_2_0) ?hi1u000111_2_0 ?st1u000111_2_0 (AllReadyH.cons (o := ?o1u000111_2_1) ?hi1u000111_2_1 ?st1u000111_2_1 AllReadyH.nil))
        case hr1u000111_2 => kernel_rfl
        case hi1u000111_2_0 => rw [List.getElem?_toArray]; rfl
        case hi1u000111_2_1 => rw [List.getElem?_toArray]; rfl
        ·
         refine st_val he32 hm15 ⟨rfl, rfl, trivial⟩ rfl rfl (.slice (some ⟨bb3, 0, none⟩) (nn3) (cc3)) (rn_load1 hm15 3 rfl _ _ rfl (4) (he32.tmp 48 _ rfl) one42 _ rfl) (fun a33 he33 => ?_)
         clear he32
         refine wh_callD (i := 4) (op := ?op1d0001110_4) (fuel := 4) ?hr1d0001110_4 ?hi1d0001110_4 he33 hm15 1 rfl ?hd1d0001110_4 ?hw1d0001110_4 _ #[.pointer (some ⟨B, 0, none⟩), .slice (some ⟨b5, 0, none⟩) (6) (6)] ?en1d0001110_4 (d_one (h.kb hm15.keep (hm15.bx 1 _ _ _ _ rfl)) (by omega) b5 [0, 1, 2, 3, 7, 9] _ (hm15.bx 5 _ _ _ _ rfl) rfl (hm15.apart 5 1 _ _ rfl rfl (by decide) rfl) (by decide) (by decide) _ rfl) (fun _ => ⟨rfl, rfl, trivial⟩) (fun d5 a34 w16 hd5 he34 hm16 => ?k1d0001110_4)
         case hi1d0001110_4 => rw [List.getElem?_toArray]; rfl
         case hw1d0001110_4 => exact rfl
         case hr1d0001110_4 => kernel_rfl
         case hd1d0001110_4 => rfl
         case en1d0001110_4 => exact (enter_call _ _ _ rfl 28 #[] #[] rfl #[.pointer (some ⟨B, 0, none⟩), .slice (some ⟨b5, 0, none⟩) (6) (6)] (map2 (he33.tmp 50 _ rfl) (he33.tmp 51 _ rfl)) #[.pointer (some ⟨B, 0, none⟩), .slice (some ⟨b5, 0, none⟩) (6) (6)] rfl (fun _ _ => by kernel_rfl))
         clear he33 hm15
         have hd5b : 0 ≤ d5 ∧ d5 ≤ 4294967295 := by simp at hd5; omega
         obtain ⟨d5n, rfl⟩ := Int.eq_ofNat_of_zero_le hd5b.1
         have hd5c : d5n ≤ 9 := by simp at hd5; omega
         refine wh_build (i := 5) (op := ?op1d0001110_5) (fuel := 3) ?hr1d0001110_5 ?hi1d0001110_5 he34 hm16 6 rfl ?hd1d0001110_5 ?hw1d0001110_5 42 1 #[(0, (.tmp 52))] ?ho1d0001110_5 #[(0, .int .i64 (((d5n : Nat) : Int)))] (pmap1 (he34.tmp 52 _ rfl)) 3 ((cellsOf i64A [((d5n : Nat) : Int)]).toArray) (fun w => by kernel_rfl) (fun _ => ⟨rfl, rfl, trivial⟩) (fun a35 w17 b6 he35 hm17 => ?k1d0001110_5)
         case hi1d0001110_5 => rw [List.getElem?_toArray]; rfl
         case hw1d0001110_5 => exact rfl
         case hr1d0001110_5 => kernel_rfl
         case hd1d0001110_5 | ho1d0001110_5 => rfl
         clear he34 hm16
         have rw6_0 : Rw ((cellsOf i64A [((d5n : Nat) : Int)]).toArray) 1 1 1 (cellsOf i64A ([((d5n : Nat) : Int)])) := Rw.lits i64A.sz [((d5n : Nat) : Int)] (by simp [maxLen])
         refine wh_append (k := nn3) (cap := cc3) (i := 6) (op := ?op1d0001110_6) (fuel := 2) ?hr1d0001110_6 ?hi1d0001110_6 he35 hm17 84 rfl ?hd1d0001110_6 ?hw1d0001110_6 (.tmp 49) (.tmp 53) 42 ?ho1d0001110_6 el3 (he35.tmp 49 _ rfl) rw3o ⟨b6, 0, none⟩ 1 1 (he35.tmp 53 _ rfl) (cellsOf i64A ([((d5n : Nat) : Int)])) (rw6_0.len) (fun j u hu => by rw [Addr.add_mid, Nat.zero_add, (hm17.bx 6 _ _ _ _ rfl).cell]; exact rw6_0.get j u hu) (cellsOf_one i64A.one _) (by simp only [maxLen]; omega) (by omega) (fun _ _ => ⟨rfl, rfl, trivial⟩) (fun a36 w18 b84_36 cap84_36 cur84_36 he36 hm18 rw84_36 => ?k1d0001110_6)
         case hi1d0001110_6 => rw [List.getElem?_toArray]; rfl
         case hw1d0001110_6 => exact rfl
         case hr1d0001110_6 => kernel_rfl
         case hd1d0001110_6 | ho1d0001110_6 => rfl
         clear he35 hm17
         replace rw84_36 := rw84_36.app
         refine tk (fuel := 1) (i := 7) ?_ he36 hm18 ⟨rfl, rfl, trivial⟩ (.pointer (some ⟨b3, 4, none⟩)) ?_ ?_ ?_ ?_ fun a37 he37 => ?_
         rotate_left
         rw [List.getElem?_toArray]; rfl
         exact ⟨by kernel_rfl, by kernel_rfl, by kernel_rfl⟩
         exact ⟨fun _ _ _ _ h => h, rfl, rfl⟩
         exact fun wS hmS => rn_field _ _ _ rfl _ (.pointer (some ⟨b3, 4, none⟩)) (he36.tmp 3 _ rfl) (by kernel_rfl)
         clear he36
         refine wh_store (i := 8) (op := ?op1d0001110_8) (fuel := 0) ?hr1d0001110_8 ?hi1d0001110_8 he37 hm18 3 rfl ?hd1d0001110_8 ?hw1d0001110_8 42 (.tmp 55) (.tmp 54) ?ho1d0001110_8 (4) (he37.tmp 55 _ rfl) _ (he37.tmp 54 _ rfl) 1 one42.size rfl (by kernel_rfl) (by simp) (#[.slice d1.1 d1.2.1 d1.2.2.1, .string (z0), .slice d2.1 d2.2.1 d2.2.2.1, .slice none 0 0, .slice (some ⟨b84_36, 0, none⟩) (nn3 + 1) (cap84_36)]) (by kernel_rfl) ⟨rfl, rfl, trivial⟩ (fun w19 hm19 => ?k1d0001110_8)
         case hi1d0001110_8 => rw [List.getElem?_toArray]; rfl
         case hw1d0001110_8 => exact rfl
         case hr1d0001110_8 => kernel_rfl
         case hd1d0001110_8 | ho1d0001110_8 => rfl
         clear hm18
         refine wpAnyH_done (by kernel_rfl) ?_ _
         refine in_normal ?_
         refine then_normal ?_
         refine wp_region_lit ?_
         refine wl_val he37 rfl rfl (.int .i64 (((kk3 : Nat) : Int))) (rn_move _ (Or.inl rfl) _ (he37.tmp 7 _ rfl)) (fun a38 he38 => ?_)
         clear he37
         refine wl_val he38 rfl rfl (.int .i64 (((kk3 - 1 : Nat) : Int))) (rn_bin _ _ _ _ _ rfl .i64 _ _ (he38.tmp 46 _ rfl) rfl (.int .i64 (IntKind.wrap .i64 (((kk3 : Nat) : Int) - 1))) _ rfl (subN (i := kk3) (c := 1) .i64 (by omega) (by rw [IntKind.wrap_i64]; omega))) (fun a39 he39 => ?_)
         clear he38
         refine wl_val he39 rfl rfl (.int .i64 (((kk3 - 1 : Nat) : Int))) (rn_move _ (Or.inr rfl) _ (he39.tmp 47 _ rfl)) (fun a40 he40 => ?_)
         clear he39
         refine wpList_nil ?_
         exact ⟨1 * (kk3 - 1), by omega, Or.inr ⟨kk3 - 1, (oo3) ++ ([((d5n : Nat) : Int)]), nn3 + 1, b84_36, cap84_36, cur84_36, qq3 + 1, rfl, ⟨by simp [hn3], by omega, rw84_36, by omega⟩, he40.sub _ ⟨rfl, rfl, rfl, rfl, rfl, rfl, rfl, rfl, rfl, rfl, rfl, rfl, rfl, rfl, rfl, rfl, rfl, rfl, rfl, rfl, rfl, rfl, rfl, rfl, rfl, trivial⟩, hm19.sub _ ⟨rfl, rfl, rfl, rfl, rfl, trivial⟩⟩⟩
        ·
         refine st_callD he32 hm15 1 rfl (fun _ => ⟨rfl, rfl, trivial⟩) rfl rfl _ #[.pointer (some ⟨B, 0, none⟩), .slice (some ⟨b5, 0, none⟩) (6) (6)] (enter_call _ _ _ rfl 28 #[] #[] rfl #[.pointer (some ⟨B, 0, none⟩), .slice (some ⟨b5, 0, none⟩) (6) (6)] (map2 (he32.tmp 50 _ rfl) (he32.tmp 51 _ rfl)) #[.pointer (some ⟨B, 0, none⟩), .slice (some ⟨b5, 0, none⟩) (6) (6)] rfl (fun _ _ => by kernel_rfl)) (d_one (h.kb hm15.keep (hm15.bx 1 _ _ _ _ rfl)) (by omega) b5 [0, 1, 2, 3, 7, 9] _ (hm15.bx 5 _ _ _ _ rfl) rfl (hm15.apart 5 1 _ _ rfl rfl (by decide) rfl) (by decide) (by decide) _ rfl) (fun d5 a33 w16 hd5 he33 hm16 => ?_)
         clear he32 hm15
         have hd5b : 0 ≤ d5 ∧ d5 ≤ 4294967295 := by simp at hd5; omega
         obtain ⟨d5n, rfl⟩ := Int.eq_ofNat_of_zero_le hd5b.1
         have hd5c : d5n ≤ 9 := by simp at hd5; omega
         refine wpAnyH_ready (fuel := 4) (rs := [1, 5]) ?hr1u0001111_3 (by simp) (AllReadyH.cons (o := ?o1u0001111_3_0) ?hi1u0001111_3_0 ?st1u0001111_3_0 (AllReadyH.cons (o := ?o1u0001111_3_1) ?hi1u0001111_3_1 ?st1u0001111_3_1 AllReadyH.nil))
         case hr1u0001111_3 => kernel_rfl
         case hi1u0001111_3_0 => rw [List.getElem?_toArray]; rfl
         case hi1u0001111_3_1 => rw [List.getElem?_toArray]; rfl
         ·
          refine st_val he33 hm16 ⟨rfl, rfl, trivial⟩ rfl rfl (.slice (some ⟨bb3, 0, none⟩) (nn3) (cc3)) (rn_load1 hm16 3 rfl _ _ rfl (4) (he33.tmp 48 _ rfl) one42 _ rfl) (fun a34 he34 => ?_)
          clear he33
          refine wh_build (i := 5) (op := ?op1d00011110_5) (fuel := 3) ?hr1d00011110_5 ?hi1d00011110_5 he34 hm16 6 rfl ?hd1d00011110_5 ?hw1d00011110_5 42 1 #[(0, (.tmp 52))] ?ho1d00011110_5 #[(0, .int .i64 (((d5n : Nat) : Int)))] (pmap1 (he34.tmp 52 _ rfl)) 3 ((cellsOf i64A [((d5n : Nat) : Int)]).toArray) (fun w => by kernel_rfl) (fun _ => ⟨rfl, rfl, trivial⟩) (fun a35 w17 b6 he35 hm17 => ?k1d00011110_5)
          case hi1d00011110_5 => rw [List.getElem?_toArray]; rfl
          case hw1d00011110_5 => exact rfl
          case hr1d00011110_5 => kernel_rfl
          case hd1d00011110_5 | ho1d00011110_5 => rfl
          clear he34 hm16
          have rw6_0 : Rw ((cellsOf i64A [((d5n : Nat) : Int)]).toArray) 1 1 1 (cellsOf i64A ([((d5n : Nat) : Int)])) := Rw.lits i64A.sz [((d5n : Nat) : Int)] (by simp [maxLen])
          refine wh_append (k := nn3) (cap := cc3) (i := 6) (op := ?op1d00011110_6) (fuel := 2) ?hr1d00011110_6 ?hi1d00011110_6 he35 hm17 84 rfl ?hd1d00011110_6 ?hw1d00011110_6 (.tmp 49) (.tmp 53) 42 ?ho1d00011110_6 el3 (he35.tmp 49 _ rfl) rw3o ⟨b6, 0, none⟩ 1 1 (he35.tmp 53 _ rfl) (cellsOf i64A ([((d5n : Nat) : Int)])) (rw6_0.len) (fun j u hu => by rw [Addr.add_mid, Nat.zero_add, (hm17.bx 6 _ _ _ _ rfl).cell]; exact rw6_0.get j u hu) (cellsOf_one i64A.one _) (by simp only [maxLen]; omega) (by omega) (fun _ _ => ⟨rfl, rfl, trivial⟩) (fun a36 w18 b84_36 cap84_36 cur84_36 he36 hm18 rw84_36 => ?k1d00011110_6)
          case hi1d00011110_6 => rw [List.getElem?_toArray]; rfl
          case hw1d00011110_6 => exact rfl
          case hr1d00011110_6 => kernel_rfl
          case hd1d00011110_6 | ho1d00011110_6 => rfl
          clear he35 hm17
          replace rw84_36 := rw84_36.app
          refine tk (fuel := 1) (i := 7) ?_ he36 hm18 ⟨rfl, rfl, trivial⟩ (.pointer (some ⟨b3, 4, none⟩)) ?_ ?_ ?_ ?_ fun a37 he37 => ?_
          rotate_left
          rw [List.getElem?_toArray]; rfl
          exact ⟨by kernel_rfl, by kernel_rfl, by kernel_rfl⟩
          exact ⟨fun _ _ _ _ h => h, rfl, rfl⟩
          exact fun wS hmS => rn_field _ _ _ rfl _ (.pointer (some ⟨b3, 4, none⟩)) (he36.tmp 3 _ rfl) (by kernel_rfl)
          clear he36
          refine wh_store (i := 8) (op := ?op1d00011110_8) (fuel := 0) ?hr1d00011110_8 ?hi1d00011110_8 he37 hm18 3 rfl ?hd1d00011110_8 ?hw1d00011110_8 42 (.tmp 55) (.tmp 54) ?ho1d00011110_8 (4) (he37.tmp 55 _ rfl) _ (he37.tmp 54 _ rfl) 1 one42.size rfl (by kernel_rfl) (by simp) (#[.slice d1.1 d1.2.1 d1.2.2.1, .string (z0), .slice d2.1 d2.2.1 d2.2.2.1, .slice none 0 0, .slice (some ⟨b84_36, 0, none⟩) (nn3 + 1) (cap84_36)]) (by kernel_rfl) ⟨rfl, rfl, trivial⟩ (fun w19 hm19 => ?k1d00011110_8)
          case hi1d00011110_8 => rw [List.getElem?_toArray]; rfl
          case hw1d00011110_8 => exact rfl
          case hr1d00011110_8 => kernel_rfl
          case hd1d00011110_8 | ho1d00011110_8 => rfl
          clear hm18
          refine wpAnyH_done (by kernel_rfl) ?_ _
          refine in_normal ?_
          refine then_normal ?_
          refine wp_region_lit ?_
          refine wl_val he37 rfl rfl (.int .i64 (((kk3 : Nat) : Int))) (rn_move _ (Or.inl rfl) _ (he37.tmp 7 _ rfl)) (fun a38 he38 => ?_)
          clear he37
          refine wl_val he38 rfl rfl (.int .i64 (((kk3 - 1 : Nat) : Int))) (rn_bin _ _ _ _ _ rfl .i64 _ _ (he38.tmp 46 _ rfl) rfl (.int .i64 (IntKind.wrap .i64 (((kk3 : Nat) : Int) - 1))) _ rfl (subN (i := kk3) (c := 1) .i64 (by omega) (by rw [IntKind.wrap_i64]; omega))) (fun a39 he39 => ?_)
          clear he38
          refine wl_val he39 rfl rfl (.int .i64 (((kk3 - 1 : Nat) : Int))) (rn_move _ (Or.inr rfl) _ (he39.tmp 47 _ rfl)) (fun a40 he40 => ?_)
          clear he39
          refine wpList_nil ?_
          exact ⟨1 * (kk3 - 1), by omega, Or.inr ⟨kk3 - 1, (oo3) ++ ([((d5n : Nat) : Int)]), nn3 + 1, b84_36, cap84_36, cur84_36, qq3 + 1, rfl, ⟨by simp [hn3], by omega, rw84_36, by omega⟩, he40.sub _ ⟨rfl, rfl, rfl, rfl, rfl, rfl, rfl, rfl, rfl, rfl, rfl, rfl, rfl, rfl, rfl, rfl, rfl, rfl, rfl, rfl, rfl, rfl, rfl, rfl, rfl, trivial⟩, hm19.sub _ ⟨rfl, rfl, rfl, rfl, rfl, trivial⟩⟩⟩
         ·
          refine st_build he33 hm16 6 rfl rfl rfl _ _ _ rfl #[(0, .int .i64 (((d5n : Nat) : Int)))] (pmap1 (he33.tmp 52 _ rfl)) 3 ((cellsOf i64A [((d5n : Nat) : Int)]).toArray) (fun w => by kernel_rfl) (fun _ => ⟨rfl, rfl, trivial⟩) (fun a34 w17 b6 he34 hm17 => ?_)
          clear he33 hm16
          have rw6_0 : Rw ((cellsOf i64A [((d5n : Nat) : Int)]).toArray) 1 1 1 (cellsOf i64A ([((d5n : Nat) : Int)])) := Rw.lits i64A.sz [((d5n : Nat) : Int)] (by simp [maxLen])
          refine wpAnyH_ready (fuel := 3) (rs := [1]) ?hr1u00011111_4 (by simp) (AllReadyH.cons (o := ?o1u00011111_4_0) ?hi1u00011111_4_0 ?st1u00011111_4_0 AllReadyH.nil)
          case hr1u00011111_4 => kernel_rfl
          case hi1u00011111_4_0 => rw [List.getElem?_toArray]; rfl
          refine st_val he34 hm17 ⟨rfl, rfl, trivial⟩ rfl rfl (.slice (some ⟨bb3, 0, none⟩) (nn3) (cc3)) (rn_load1 hm17 3 rfl _ _ rfl (4) (he34.tmp 48 _ rfl) one42 _ rfl) (fun a35 he35 => ?_)
          clear he34
          refine wh_append (k := nn3) (cap := cc3) (i := 6) (op := ?op1d00011111_6) (fuel := 2) ?hr1d00011111_6 ?hi1d00011111_6 he35 hm17 84 rfl ?hd1d00011111_6 ?hw1d00011111_6 (.tmp 49) (.tmp 53) 42 ?ho1d00011111_6 el3 (he35.tmp 49 _ rfl) rw3o ⟨b6, 0, none⟩ 1 1 (he35.tmp 53 _ rfl) (cellsOf i64A ([((d5n : Nat) : Int)])) (rw6_0.len) (fun j u hu => by rw [Addr.add_mid, Nat.zero_add, (hm17.bx 6 _ _ _ _ rfl).cell]; exact rw6_0.get j u hu) (cellsOf_one i64A.one _) (by simp only [maxLen]; omega) (by omega) (fun _ _ => ⟨rfl, rfl, trivial⟩) (fun a36 w18 b84_36 cap84_36 cur84_36 he36 hm18 rw84_36 => ?k1d00011111_6)
          case hi1d00011111_6 => rw [List.getElem?_toArray]; rfl
          case hw1d00011111_6 => exact rfl
          case hr1d00011111_6 => kernel_rfl
          case hd1d00011111_6 | ho1d00011111_6 => rfl
          clear he35 hm17
          replace rw84_36 := rw84_36.app
          refine tk (fuel := 1) (i := 7) ?_ he36 hm18 ⟨rfl, rfl, trivial⟩ (.pointer (some ⟨b3, 4, none⟩)) ?_ ?_ ?_ ?_ fun a37 he37 => ?_
          rotate_left
          rw [List.getElem?_toArray]; rfl
          exact ⟨by kernel_rfl, by kernel_rfl, by kernel_rfl⟩
          exact ⟨fun _ _ _ _ h => h, rfl, rfl⟩
          exact fun wS hmS => rn_field _ _ _ rfl _ (.pointer (some ⟨b3, 4, none⟩)) (he36.tmp 3 _ rfl) (by kernel_rfl)
          clear he36
          refine wh_store (i := 8) (op := ?op1d00011111_8) (fuel := 0) ?hr1d00011111_8 ?hi1d00011111_8 he37 hm18 3 rfl ?hd1d00011111_8 ?hw1d00011111_8 42 (.tmp 55) (.tmp 54) ?ho1d00011111_8 (4) (he37.tmp 55 _ rfl) _ (he37.tmp 54 _ rfl) 1 one42.size rfl (by kernel_rfl) (by simp) (#[.slice d1.1 d1.2.1 d1.2.2.1, .string (z0), .slice d2.1 d2.2.1 d2.2.2.1, .slice none 0 0, .slice (some ⟨b84_36, 0, none⟩) (nn3 + 1) (cap84_36)]) (by kernel_rfl) ⟨rfl, rfl, trivial⟩ (fun w19 hm19 => ?k1d00011111_8)
          case hi1d00011111_8 => rw [List.getElem?_toArray]; rfl
          case hw1d00011111_8 => exact rfl
          case hr1d00011111_8 => kernel_rfl
          case hd1d00011111_8 | ho1d00011111_8 => rfl
          clear hm18
          refine wpAnyH_done (by kernel_rfl) ?_ _
          refine in_normal ?_
          refine then_normal ?_
          refine wp_region_lit ?_
          refine wl_val he37 rfl rfl (.int .i64 (((kk3 : Nat) : Int))) (rn_move _ (Or.inl rfl) _ (he37.tmp 7 _ rfl)) (fun a38 he38 => ?_)
          clear he37
          refine wl_val he38 rfl rfl (.int .i64 (((kk3 - 1 : Nat) : Int))) (rn_bin _ _ _ _ _ rfl .i64 _ _ (he38.tmp 46 _ rfl) rfl (.int .i64 (IntKind.wrap .i64 (((kk3 : Nat) : Int) - 1))) _ rfl (subN (i := kk3) (c := 1) .i64 (by omega) (by rw [IntKind.wrap_i64]; omega))) (fun a39 he39 => ?_)
          clear he38
          refine wl_val he39 rfl rfl (.int .i64 (((kk3 - 1 : Nat) : Int))) (rn_move _ (Or.inr rfl) _ (he39.tmp 47 _ rfl)) (fun a40 he40 => ?_)
          clear he39
          refine wpList_nil ?_
          exact ⟨1 * (kk3 - 1), by omega, Or.inr ⟨kk3 - 1, (oo3) ++ ([((d5n : Nat) : Int)]), nn3 + 1, b84_36, cap84_36, cur84_36, qq3 + 1, rfl, ⟨by simp [hn3], by omega, rw84_36, by omega⟩, he40.sub _ ⟨rfl, rfl, rfl, rfl, rfl, rfl, rfl, rfl, rfl, rfl, rfl, rfl, rfl, rfl, rfl, rfl, rfl, rfl, rfl, rfl, rfl, rfl, rfl, rfl, rfl, trivial⟩, hm19.sub _ ⟨rfl, rfl, rfl, rfl, rfl, trivial⟩⟩⟩
    ·
     have hd2p := of_decide_eq_true hd2
     refine wl_val he22 rfl rfl (.bool true) (rn_bin _ _ _ _ _ rfl .i64 _ _ (he22.tmp 31 _ rfl) rfl (.bool (decide (((kk2 : Nat) : Int) > 0))) _ rfl (congrArg Value.bool (hd2))) (fun a23 he23 => ?_)
     clear he22
     refine wl_end ?_
     refine wp_condT (he := he23) rfl ?_
     refine wp_skip ?_
     refine then_normal ?_
     refine wp_seq ?_
     refine wp_block ?_
     refine wh_begin (by kernel_rfl) hm11 [(2, ⟨true, b2, 44, #[.slice none 0 0, .string (⟨#[]⟩), .slice none 0 0, .slice none 0 0, .slice none 0 0]⟩), (4, ⟨true, ob, 5, oa⟩)] ⟨rfl, rfl, trivial⟩ (fun w12 hm12 => ?_)
     clear hm11
     refine tk (fuel := 7) (i := 0) ?_ he23 hm12 ⟨rfl, rfl, trivial⟩ (.pointer (some ⟨b3, 3, none⟩)) ?_ ?_ ?_ ?_ fun a24 he24 => ?_
     rotate_left
     rw [List.getElem?_toArray]; rfl
     exact ⟨by kernel_rfl, by kernel_rfl, by kernel_rfl⟩
     exact ⟨fun _ _ _ _ h => h, rfl, rfl⟩
     exact fun wS hmS => rn_field _ _ _ rfl _ (.pointer (some ⟨b3, 3, none⟩)) (he23.tmp 3 _ rfl) (by kernel_rfl)
     clear he23
     refine tk (fuel := 6) (i := 2) ?_ he24 hm12 ⟨rfl, rfl, trivial⟩ (.pointer (some ⟨B, 0, none⟩)) ?_ ?_ ?_ ?_ fun a25 he25 => ?_
     rotate_left
     rw [List.getElem?_toArray]; rfl
     exact ⟨by kernel_rfl, by kernel_rfl, by kernel_rfl⟩
     exact ⟨fun _ _ _ _ h => h, rfl, rfl⟩
     exact fun wS hmS => rn_move _ (Or.inl rfl) _ (he24.tmp 0 _ rfl)
     clear he24
     refine wpAnyH_ready (fuel := 5) (rs := [1, 3]) ?hr1u001_1 (by simp) (AllReadyH.cons (o := ?o1u001_1_0) ?hi1u001_1_0 ?st1u001_1_0 (AllReadyH.cons (o := ?o1u001_1_1) ?hi1u001_1_1 ?st1u001_1_1 AllReadyH.nil))
     case hr1u001_1 => kernel_rfl
     case hi1u001_1_0 => rw [List.getElem?_toArray]; rfl
     case hi1u001_1_1 => rw [List.getElem?_toArray]; rfl
     ·
      refine st_val he25 hm12 ⟨rfl, rfl, trivial⟩ rfl rfl (.slice none 0 0) (rn_load1 hm12 3 rfl _ _ rfl (3) (he25.tmp 35 _ rfl) one42 _ rfl) (fun a26 he26 => ?_)
      clear he25
      refine wh_callD (i := 3) (op := ?op1d0010_3) (fuel := 4) ?hr1d0010_3 ?hi1d0010_3 he26 hm12 1 rfl ?hd1d0010_3 ?hw1d0010_3 _ #[.pointer (some ⟨B, 0, none⟩)] ?en1d0010_3 (d_number (h.kb hm12.keep (hm12.bx 1 _ _ _ _ rfl)) (by omega)) (fun _ => ⟨rfl, rfl, trivial⟩) (fun d4 a27 w13 hd4 he27 hm13 => ?k1d0010_3)
      case hi1d0010_3 => rw [List.getElem?_toArray]; rfl
      case hw1d0010_3 => exact rfl
      case hr1d0010_3 => kernel_rfl
      case hd1d0010_3 => rfl
      case en1d0010_3 => exact (enter_call _ _ _ rfl 32 #[] #[] rfl #[.pointer (some ⟨B, 0, none⟩)] (map1 (he26.tmp 37 _ rfl)) #[.pointer (some ⟨B, 0, none⟩)] rfl (fun _ _ => by kernel_rfl))
      clear he26 hm12
      have hd4b : d4.2 ≤ qq2 + 3 := hd4
      refine wh_build (i := 4) (op := ?op1d0010_4) (fuel := 3) ?hr1d0010_4 ?hi1d0010_4 he27 hm13 5 rfl ?hd1d0010_4 ?hw1d0010_4 42 1 #[(0, (.tmp 38))] ?ho1d0010_4 #[(0, .int .i64 (((d4.1 : Nat) : Int)))] (pmap1 (he27.tmp 38 _ rfl)) 3 ((cellsOf i64A [((d4.1 : Nat) : Int)]).toArray) (fun w => by kernel_rfl) (fun _ => ⟨rfl, rfl, trivial⟩) (fun a28 w14 b5 he28 hm14 => ?k1d0010_4)
      case hi1d0010_4 => rw [List.getElem?_toArray]; rfl
      case hw1d0010_4 => exact rfl
      case hr1d0010_4 => kernel_rfl
      case hd1d0010_4 | ho1d0010_4 => rfl
      clear he27 hm13
      have rw5_0 : Rw ((cellsOf i64A [((d4.1 : Nat) : Int)]).toArray) 1 1 1 (cellsOf i64A ([((d4.1 : Nat) : Int)])) := Rw.lits i64A.sz [((d4.1 : Nat) : Int)] (by simp [maxLen])
      refine wh_append0 (i := 5) (op := ?op1d0010_5) (fuel := 2) ?hr1d0010_5 ?hi1d0010_5 he28 hm14 83 rfl ?hd1d0010_5 ?hw1d0010_5 (.tmp 36) (.tmp 39) 42 ?ho1d0010_5 el3 (he28.tmp 36 _ rfl) ⟨b5, 0, none⟩ 1 1 (he28.tmp 39 _ rfl) (by omega) (cellsOf i64A ([((d4.1 : Nat) : Int)])) (rw5_0.len) (fun j u hu => by rw [Addr.add_mid, Nat.zero_add, (hm14.bx 5 _ _ _ _ rfl).cell]; exact rw5_0.get j u hu) (by simp only [maxLen]; omega) (by omega) (fun _ _ => ⟨rfl, rfl, trivial⟩) (fun a29 w15 b83_29 cap83_29 cur83_29 he29 hm15 rw83_29 => ?k1d0010_5)
      case hi1d0010_5 => rw [List.getElem?_toArray]; rfl
      case hw1d0010_5 => exact rfl
      case hr1d0010_5 => kernel_rfl
      case hd1d0010_5 | ho1d0010_5 => rfl
      clear he28 hm14
      refine tk (fuel := 1) (i := 6) ?_ he29 hm15 ⟨rfl, rfl, trivial⟩ (.pointer (some ⟨b3, 3, none⟩)) ?_ ?_ ?_ ?_ fun a30 he30 => ?_
      rotate_left
      rw [List.getElem?_toArray]; rfl
      exact ⟨by kernel_rfl, by kernel_rfl, by kernel_rfl⟩
      exact ⟨fun _ _ _ _ h => h, rfl, rfl⟩
      exact fun wS hmS => rn_field _ _ _ rfl _ (.pointer (some ⟨b3, 3, none⟩)) (he29.tmp 3 _ rfl) (by kernel_rfl)
      clear he29
      refine wh_store (i := 7) (op := ?op1d0010_7) (fuel := 0) ?hr1d0010_7 ?hi1d0010_7 he30 hm15 3 rfl ?hd1d0010_7 ?hw1d0010_7 42 (.tmp 41) (.tmp 40) ?ho1d0010_7 (3) (he30.tmp 41 _ rfl) _ (he30.tmp 40 _ rfl) 1 one42.size rfl (by kernel_rfl) (by simp) (#[.slice d1.1 d1.2.1 d1.2.2.1, .string (z0), .slice d2.1 d2.2.1 d2.2.2.1, .slice (some ⟨b83_29, 0, none⟩) (1) (cap83_29), .slice none 0 0]) (by kernel_rfl) ⟨rfl, rfl, trivial⟩ (fun w16 hm16 => ?k1d0010_7)
      case hi1d0010_7 => rw [List.getElem?_toArray]; rfl
      case hw1d0010_7 => exact rfl
      case hr1d0010_7 => kernel_rfl
      case hd1d0010_7 | ho1d0010_7 => rfl
      clear hm15
      refine wpAnyH_done (by kernel_rfl) ?_ _
      refine in_normal ?_
      refine then_normal ?_
      refine wp_region_lit ?_
      refine wl_val he30 rfl rfl (.int .i64 (((kk2 : Nat) : Int))) (rn_move _ (Or.inl rfl) _ (he30.tmp 6 _ rfl)) (fun a31 he31 => ?_)
      clear he30
      refine wl_val he31 rfl rfl (.int .i64 (((kk2 - 1 : Nat) : Int))) (rn_bin _ _ _ _ _ rfl .i64 _ _ (he31.tmp 33 _ rfl) rfl (.int .i64 (IntKind.wrap .i64 (((kk2 : Nat) : Int) - 1))) _ rfl (subN (i := kk2) (c := 1) .i64 (by omega) (by rw [IntKind.wrap_i64]; omega))) (fun a32 he32 => ?_)
      clear he31
      refine wl_val he32 rfl rfl (.int .i64 (((kk2 - 1 : Nat) : Int))) (rn_move _ (Or.inr rfl) _ (he32.tmp 34 _ rfl)) (fun a33 he33 => ?_)
      clear he32
      refine wpList_nil ?_
      exact ⟨1 * (kk2 - 1), by omega, Or.inr ⟨kk2 - 1, [((d4.1 : Nat) : Int)], 1, b83_29, cap83_29, cur83_29, d4.2, rfl, ⟨by simp, by omega, rw83_29, by omega⟩, he33.sub _ ⟨rfl, rfl, rfl, rfl, rfl, rfl, rfl, rfl, rfl, rfl, rfl, rfl, rfl, rfl, rfl, rfl, rfl, rfl, rfl, rfl, trivial⟩, hm16.sub _ ⟨rfl, rfl, rfl, rfl, rfl, trivial⟩⟩⟩
     ·
      refine st_callD he25 hm12 1 rfl (fun _ => ⟨rfl, rfl, trivial⟩) rfl rfl _ #[.pointer (some ⟨B, 0, none⟩)] (enter_call _ _ _ rfl 32 #[] #[] rfl #[.pointer (some ⟨B, 0, none⟩)] (map1 (he25.tmp 37 _ rfl)) #[.pointer (some ⟨B, 0, none⟩)] rfl (fun _ _ => by kernel_rfl)) (d_number (h.kb hm12.keep (hm12.bx 1 _ _ _ _ rfl)) (by omega)) (fun d4 a26 w13 hd4 he26 hm13 => ?_)
      clear he25 hm12
      have hd4b : d4.2 ≤ qq2 + 3 := hd4
      refine wpAnyH_ready (fuel := 4) (rs := [1, 4]) ?hr1u0011_2 (by simp) (AllReadyH.cons (o := ?o1u0011_2_0) ?hi1u0011_2_0 ?st1u0011_2_0 (AllReadyH.cons (o := ?o1u0011_2_1) ?hi1u0011_2_1 ?st1u0011_2_1 AllReadyH.nil))
      case hr1u0011_2 => kernel_rfl
      case hi1u0011_2_0 => rw [List.getElem?_toArray]; rfl
      case hi1u0011_2_1 => rw [List.getElem?_toArray]; rfl
      ·
       refine st_val he26 hm13 ⟨rfl, rfl, trivial⟩ rfl rfl (.slice none 0 0) (rn_load1 hm13 3 rfl _ _ rfl (3) (he26.tmp 35 _ rfl) one42 _ rfl) (fun a27 he27 => ?_)
       clear he26
       refine wh_build (i := 4) (op := ?op1d00110_4) (fuel := 3) ?hr1d00110_4 ?hi1d00110_4 he27 hm13 5 rfl ?hd1d00110_4 ?hw1d00110_4 42 1 #[(0, (.tmp 38))] ?ho1d00110_4 #[(0, .int .i64 (((d4.1 : Nat) : Int)))] (pmap1 (he27.tmp 38 _ rfl)) 3 ((cellsOf i64A [((d4.1 : Nat) : Int)]).toArray) (fun w => by kernel_rfl) (fun _ => ⟨rfl, rfl, trivial⟩) (fun a28 w14 b5 he28 hm14 => ?k1d00110_4)
       case hi1d00110_4 => rw [List.getElem?_toArray]; rfl
       case hw1d00110_4 => exact rfl
       case hr1d00110_4 => kernel_rfl
       case hd1d00110_4 | ho1d00110_4 => rfl
       clear he27 hm13
       have rw5_0 : Rw ((cellsOf i64A [((d4.1 : Nat) : Int)]).toArray) 1 1 1 (cellsOf i64A ([((d4.1 : Nat) : Int)])) := Rw.lits i64A.sz [((d4.1 : Nat) : Int)] (by simp [maxLen])
       refine wh_append0 (i := 5) (op := ?op1d00110_5) (fuel := 2) ?hr1d00110_5 ?hi1d00110_5 he28 hm14 83 rfl ?hd1d00110_5 ?hw1d00110_5 (.tmp 36) (.tmp 39) 42 ?ho1d00110_5 el3 (he28.tmp 36 _ rfl) ⟨b5, 0, none⟩ 1 1 (he28.tmp 39 _ rfl) (by omega) (cellsOf i64A ([((d4.1 : Nat) : Int)])) (rw5_0.len) (fun j u hu => by rw [Addr.add_mid, Nat.zero_add, (hm14.bx 5 _ _ _ _ rfl).cell]; exact rw5_0.get j u hu) (by simp only [maxLen]; omega) (by omega) (fun _ _ => ⟨rfl, rfl, trivial⟩) (fun a29 w15 b83_29 cap83_29 cur83_29 he29 hm15 rw83_29 => ?k1d00110_5)
       case hi1d00110_5 => rw [List.getElem?_toArray]; rfl
       case hw1d00110_5 => exact rfl
       case hr1d00110_5 => kernel_rfl
       case hd1d00110_5 | ho1d00110_5 => rfl
       clear he28 hm14
       refine tk (fuel := 1) (i := 6) ?_ he29 hm15 ⟨rfl, rfl, trivial⟩ (.pointer (some ⟨b3, 3, none⟩)) ?_ ?_ ?_ ?_ fun a30 he30 => ?_
       rotate_left
       rw [List.getElem?_toArray]; rfl
       exact ⟨by kernel_rfl, by kernel_rfl, by kernel_rfl⟩
       exact ⟨fun _ _ _ _ h => h, rfl, rfl⟩
       exact fun wS hmS => rn_field _ _ _ rfl _ (.pointer (some ⟨b3, 3, none⟩)) (he29.tmp 3 _ rfl) (by kernel_rfl)
       clear he29
       refine wh_store (i := 7) (op := ?op1d00110_7) (fuel := 0) ?hr1d00110_7 ?hi1d00110_7 he30 hm15 3 rfl ?hd1d00110_7 ?hw1d00110_7 42 (.tmp 41) (.tmp 40) ?ho1d00110_7 (3) (he30.tmp 41 _ rfl) _ (he30.tmp 40 _ rfl) 1 one42.size rfl (by kernel_rfl) (by simp) (#[.slice d1.1 d1.2.1 d1.2.2.1, .string (z0), .slice d2.1 d2.2.1 d2.2.2.1, .slice (some ⟨b83_29, 0, none⟩) (1) (cap83_29), .slice none 0 0]) (by kernel_rfl) ⟨rfl, rfl, trivial⟩ (fun w16 hm16 => ?k1d00110_7)
       case hi1d00110_7 => rw [List.getElem?_toArray]; rfl
       case hw1d00110_7 => exact rfl
       case hr1d00110_7 => kernel_rfl
       case hd1d00110_7 | ho1d00110_7 => rfl
       clear hm15
       refine wpAnyH_done (by kernel_rfl) ?_ _
       refine in_normal ?_
       refine then_normal ?_
       refine wp_region_lit ?_
       refine wl_val he30 rfl rfl (.int .i64 (((kk2 : Nat) : Int))) (rn_move _ (Or.inl rfl) _ (he30.tmp 6 _ rfl)) (fun a31 he31 => ?_)
       clear he30
       refine wl_val he31 rfl rfl (.int .i64 (((kk2 - 1 : Nat) : Int))) (rn_bin _ _ _ _ _ rfl .i64 _ _ (he31.tmp 33 _ rfl) rfl (.int .i64 (IntKind.wrap .i64 (((kk2 : Nat) : Int) - 1))) _ rfl (subN (i := kk2) (c := 1) .i64 (by omega) (by rw [IntKind.wrap_i64]; omega))) (fun a32 he32 => ?_)
       clear he31
       refine wl_val he32 rfl rfl (.int .i64 (((kk2 - 1 : Nat) : Int))) (rn_move _ (Or.inr rfl) _ (he32.tmp 34 _ rfl)) (fun a33 he33 => ?_)
       clear he32
       refine wpList_nil ?_
       exact ⟨1 * (kk2 - 1), by omega, Or.inr ⟨kk2 - 1, [((d4.1 : Nat) : Int)], 1, b83_29, cap83_29, cur83_29, d4.2, rfl, ⟨by simp, by omega, rw83_29, by omega⟩, he33.sub _ ⟨rfl, rfl, rfl, rfl, rfl, rfl, rfl, rfl, rfl, rfl, rfl, rfl, rfl, rfl, rfl, rfl, rfl, rfl, rfl, rfl, trivial⟩, hm16.sub _ ⟨rfl, rfl, rfl, rfl, rfl, trivial⟩⟩⟩
      ·
       refine st_build he26 hm13 5 rfl rfl rfl _ _ _ rfl #[(0, .int .i64 (((d4.1 : Nat) : Int)))] (pmap1 (he26.tmp 38 _ rfl)) 3 ((cellsOf i64A [((d4.1 : Nat) : Int)]).toArray) (fun w => by kernel_rfl) (fun _ => ⟨rfl, rfl, trivial⟩) (fun a27 w14 b5 he27 hm14 => ?_)
       clear he26 hm13
       have rw5_0 : Rw ((cellsOf i64A [((d4.1 : Nat) : Int)]).toArray) 1 1 1 (cellsOf i64A ([((d4.1 : Nat) : Int)])) := Rw.lits i64A.sz [((d4.1 : Nat) : Int)] (by simp [maxLen])
       refine wpAnyH_ready (fuel := 3) (rs := [1]) ?hr1u00111_3 (by simp) (AllReadyH.cons (o := ?o1u00111_3_0) ?hi1u00111_3_0 ?st1u00111_3_0 AllReadyH.nil)
       case hr1u00111_3 => kernel_rfl
       case hi1u00111_3_0 => rw [List.getElem?_toArray]; rfl
       refine st_val he27 hm14 ⟨rfl, rfl, trivial⟩ rfl rfl (.slice none 0 0) (rn_load1 hm14 3 rfl _ _ rfl (3) (he27.tmp 35 _ rfl) one42 _ rfl) (fun a28 he28 => ?_)
       clear he27
       refine wh_append0 (i := 5) (op := ?op1d00111_5) (fuel := 2) ?hr1d00111_5 ?hi1d00111_5 he28 hm14 83 rfl ?hd1d00111_5 ?hw1d00111_5 (.tmp 36) (.tmp 39) 42 ?ho1d00111_5 el3 (he28.tmp 36 _ rfl) ⟨b5, 0, none⟩ 1 1 (he28.tmp 39 _ rfl) (by omega) (cellsOf i64A ([((d4.1 : Nat) : Int)])) (rw5_0.len) (fun j u hu => by rw [Addr.add_mid, Nat.zero_add, (hm14.bx 5 _ _ _ _ rfl).cell]; exact rw5_0.get j u hu) (by simp only [maxLen]; omega) (by omega) (fun _ _ => ⟨rfl, rfl, trivial⟩) (fun a29 w15 b83_29 cap83_29 cur83_29 he29 hm15 rw83_29 => ?k1d00111_5)
       case hi1d00111_5 => rw [List.getElem?_toArray]; rfl
       case hw1d00111_5 => exact rfl
       case hr1d00111_5 => kernel_rfl
       case hd1d00111_5 | ho1d00111_5 => rfl
       clear he28 hm14
       refine tk (fuel := 1) (i := 6) ?_ he29 hm15 ⟨rfl, rfl, trivial⟩ (.pointer (some ⟨b3, 3, none⟩)) ?_ ?_ ?_ ?_ fun a30 he30 => ?_
       rotate_left
       rw [List.getElem?_toArray]; rfl
       exact ⟨by kernel_rfl, by kernel_rfl, by kernel_rfl⟩
       exact ⟨fun _ _ _ _ h => h, rfl, rfl⟩
       exact fun wS hmS => rn_field _ _ _ rfl _ (.pointer (some ⟨b3, 3, none⟩)) (he29.tmp 3 _ rfl) (by kernel_rfl)
       clear he29
       refine wh_store (i := 7) (op := ?op1d00111_7) (fuel := 0) ?hr1d00111_7 ?hi1d00111_7 he30 hm15 3 rfl ?hd1d00111_7 ?hw1d00111_7 42 (.tmp 41) (.tmp 40) ?ho1d00111_7 (3) (he30.tmp 41 _ rfl) _ (he30.tmp 40 _ rfl) 1 one42.size rfl (by kernel_rfl) (by simp) (#[.slice d1.1 d1.2.1 d1.2.2.1, .string (z0), .slice d2.1 d2.2.1 d2.2.2.1, .slice (some ⟨b83_29, 0, none⟩) (1) (cap83_29), .slice none 0 0]) (by kernel_rfl) ⟨rfl, rfl, trivial⟩ (fun w16 hm16 => ?k1d00111_7)
       case hi1d00111_7 => rw [List.getElem?_toArray]; rfl
       case hw1d00111_7 => exact rfl
       case hr1d00111_7 => kernel_rfl
       case hd1d00111_7 | ho1d00111_7 => rfl
       clear hm15
       refine wpAnyH_done (by kernel_rfl) ?_ _
       refine in_normal ?_
       refine then_normal ?_
       refine wp_region_lit ?_
       refine wl_val he30 rfl rfl (.int .i64 (((kk2 : Nat) : Int))) (rn_move _ (Or.inl rfl) _ (he30.tmp 6 _ rfl)) (fun a31 he31 => ?_)
       clear he30
       refine wl_val he31 rfl rfl (.int .i64 (((kk2 - 1 : Nat) : Int))) (rn_bin _ _ _ _ _ rfl .i64 _ _ (he31.tmp 33 _ rfl) rfl (.int .i64 (IntKind.wrap .i64 (((kk2 : Nat) : Int) - 1))) _ rfl (subN (i := kk2) (c := 1) .i64 (by omega) (by rw [IntKind.wrap_i64]; omega))) (fun a32 he32 => ?_)
       clear he31
       refine wl_val he32 rfl rfl (.int .i64 (((kk2 - 1 : Nat) : Int))) (rn_move _ (Or.inr rfl) _ (he32.tmp 34 _ rfl)) (fun a33 he33 => ?_)
       clear he32
       refine wpList_nil ?_
       exact ⟨1 * (kk2 - 1), by omega, Or.inr ⟨kk2 - 1, [((d4.1 : Nat) : Int)], 1, b83_29, cap83_29, cur83_29, d4.2, rfl, ⟨by simp, by omega, rw83_29, by omega⟩, he33.sub _ ⟨rfl, rfl, rfl, rfl, rfl, rfl, rfl, rfl, rfl, rfl, rfl, rfl, rfl, rfl, rfl, rfl, rfl, rfl, rfl, rfl, trivial⟩, hm16.sub _ ⟨rfl, rfl, rfl, rfl, rfl, trivial⟩⟩⟩
   ·
    clear he20 hm10
    obtain ⟨hn2, hk2, rw2o, hq2⟩ := hrel2
    refine wp_seq ?_
    refine wp_seqR ?_
    refine wl_val he21 rfl rfl (.int .i64 (((kk2 : Nat) : Int))) (rn_move _ (Or.inl rfl) _ (he21.tmp 6 _ rfl)) (fun a22 he22 => ?_)
    clear he21
    cases hd2 : (decide (((kk2 : Nat) : Int) > 0))
    ·
     have hd2p := of_decide_eq_false hd2
     refine wl_val he22 rfl rfl (.bool false) (rn_bin _ _ _ _ _ rfl .i64 _ _ (he22.tmp 31 _ rfl) rfl (.bool (decide (((kk2 : Nat) : Int) > 0))) _ rfl (congrArg Value.bool (hd2))) (fun a23 he23 => ?_)
     clear he22
     refine wl_end ?_
     refine wp_condF (he := he23) rfl ?_
     refine wp_exit ?_
     refine exit_then ?_
     refine exit_then ?_
     refine exit_here ?_
     refine then_normal ?_
     refine wp_seq ?_
     refine wp_seqR ?_
     refine wl_val he23 rfl rfl (.pointer (some ⟨B, 0, none⟩)) (rn_move _ (Or.inl rfl) _ (he23.tmp 0 _ rfl)) (fun a24 he24 => ?_)
     clear he23
     refine wl_callD he24 hm11 1 rfl rfl rfl _ #[.pointer (some ⟨B, 0, none⟩), .int .i64 (4)] (enter_call _ _ _ rfl 29 #[] #[] rfl #[.pointer (some ⟨B, 0, none⟩), .int .i64 (4)] (map2 (he24.tmp 42 _ rfl) rfl) #[.pointer (some ⟨B, 0, none⟩), .int .i64 (4)] rfl (fun _ _ => by kernel_rfl)) (d_pick (h.kb hm11.keep (hm11.bx 1 _ _ _ _ rfl)) (by omega) 4 (by omega) (by omega)) (fun d4 a25 w12 hd4 he25 hm12 => ?_)
     clear he24 hm11
     refine wl_val he25 rfl rfl (.int .i64 (((d4 : Nat) : Int))) (rn_move _ (Or.inr rfl) _ (he25.tmp 43 _ rfl)) (fun a26 he26 => ?_)
     clear he25
     refine wl_end ?_
     refine wp_block ?_
     refine wp_loopN (fun mz az wz => (∃ (kk3 : Nat), ∃ (qq3 : Nat), mz = 1 * kk3 ∧ (kk3 ≤ 3 ∧ qq3 + 1 * kk3 ≤ p + 650) ∧ EV az 57 [] [(0, .pointer (some ⟨B, 0, none⟩)), (2, .pointer (some ⟨b2, 0, none⟩)), (8, .pointer (some ⟨B, 0, none⟩)), (9, .slice d1.1 d1.2.1 d1.2.2.1), (10, .pointer (some ⟨B, 0, none⟩)), (11, .slice d2.1 d2.2.1 d2.2.2.1), (12, .agg (#[.slice d1.1 d1.2.1 d1.2.2.1, .string (⟨#[]⟩), .slice d2.1 d2.2.1 d2.2.2.1, .slice none 0 0, .slice none 0 0])), (3, .pointer (some ⟨b3, 0, none⟩)), (13, .slice (some ⟨b4, 0, none⟩) (0) (0)), (5, .int .i64 (((i : Nat) : Int))), (4, .slice (some ⟨ob, 0, none⟩) (on) (oc)), (14, .int .i64 (((i : Nat) : Int))), (15, .bool false), (25, .slice (some ⟨ob, 0, none⟩) (on) (oc)), (26, .string (z0)), (27, .pointer (some ⟨b3, 1, none⟩)), (28, .pointer (some ⟨B, 0, none⟩)), (29, .int .i64 (((d3 : Nat) : Int))), (30, .int .i64 (((1 + d3 : Nat) : Int))), (6, .int .i64 (((kk2 : Nat) : Int))), (31, .int .i64 (((kk2 : Nat) : Int))), (32, .bool false), (42, .pointer (some ⟨B, 0, none⟩)), (43, .int .i64 (((d4 : Nat) : Int))), (7, .int .i64 (((kk3 : Nat) : Int)))] ∧ MM [B] w wz [(1, ⟨true, B, 67, rdA a len cap (qq3)⟩), (2, ⟨true, b2, 44, #[.slice none 0 0, .string (⟨#[]⟩), .slice none 0 0, .slice none 0 0, .slice none 0 0]⟩), (3, ⟨true, b3, 44, #[.slice d1.1 d1.2.1 d1.2.2.1, .string (z0), .slice d2.1 d2.2.1 d2.2.2.1, .slice (some ⟨bb2, 0, none⟩) (nn2) (cc2), .slice none 0 0]⟩), (4, ⟨true, ob, 5, oa⟩), (83, ⟨true, bb2, 3, aa2⟩)]) ∨ (∃ (kk3 : Nat), ∃ (oo3 : List Int), ∃ (nn3 : Nat), ∃ (bb3 : Nat), ∃ (cc3 : Nat), ∃ (aa3 : Array Value), ∃ (qq3 : Nat), mz = 1 * kk3 ∧ (nn3 = (oo3).length ∧ nn3 + kk3 ≤ 3 ∧ Rw (aa3) (nn3) (cc3) 1 (cellsOf i64A (oo3)) ∧ qq3 + 1 * kk3 ≤ p + 650) ∧ EV az 57 [] [(0, .pointer (some ⟨B, 0, none⟩)), (2, .pointer (some ⟨b2, 0, none⟩)), (8, .pointer (some ⟨B, 0, none⟩)), (9, .slice d1.1 d1.2.1 d1.2.2.1), (10, .pointer (some ⟨B, 0, none⟩)), (11, .slice d2.1 d2.2.1 d2.2.2.1), (12, .agg (#[.slice d1.1 d1.2.1 d1.2.2.1, .string (⟨#[]⟩), .slice d2.1 d2.2.1 d2.2.2.1, .slice none 0 0, .slice none 0 0])), (3, .pointer (some ⟨b3, 0, none⟩)), (13, .slice (some ⟨b4, 0, none⟩) (0) (0)), (5, .int .i64 (((i : Nat) : Int))), (4, .slice (some ⟨ob, 0, none⟩) (on) (oc)), (14, .int .i64 (((i : Nat) : Int))), (15, .bool false), (25, .slice (some ⟨ob, 0, none⟩) (on) (oc)), (26, .string (z0)), (27, .pointer (some ⟨b3, 1, none⟩)), (28, .pointer (some ⟨B, 0, none⟩)), (29, .int .i64 (((d3 : Nat) : Int))), (30, .int .i64 (((1 + d3 : Nat) : Int))), (6, .int .i64 (((kk2 : Nat) : Int))), (31, .int .i64 (((kk2 : Nat) : Int))), (32, .bool false), (42, .pointer (some ⟨B, 0, none⟩)), (43, .int .i64 (((d4 : Nat) : Int))), (7, .int .i64 (((kk3 : Nat) : Int)))] ∧ MM [B] w wz [(1, ⟨true, B, 67, rdA a len cap (qq3)⟩), (2, ⟨true, b2, 44, #[.slice none 0 0, .string (⟨#[]⟩), .slice none 0 0, .slice none 0 0, .slice none 0 0]⟩), (3, ⟨true, b3, 44, #[.slice d1.1 d1.2.1 d1.2.2.1, .string (z0), .slice d2.1 d2.2.1 d2.2.2.1, .slice (some ⟨bb2, 0, none⟩) (nn2) (cc2), .slice (some ⟨bb3, 0, none⟩) (nn3) (cc3)]⟩), (4, ⟨true, ob, 5, oa⟩), (83, ⟨true, bb2, 3, aa2⟩), (84, ⟨true, bb3, 3, aa3⟩)])) ⟨_, Or.inl ⟨d4, qq2 + 1, rfl, ⟨by omega, by omega⟩, he26.sub _ ⟨rfl, rfl, rfl, rfl, rfl, rfl, rfl, rfl, rfl, rfl, rfl, rfl, rfl, rfl, rfl, rfl, rfl, rfl, rfl, rfl, rfl, rfl, rfl, rfl, rfl, trivial⟩, hm12.sub _ ⟨rfl, rfl, rfl, rfl, rfl, trivial⟩⟩⟩ ?_
     rintro mz3 a27 w13 (⟨kk3, qq3, rfl, hrel3, he27, hm13⟩ | ⟨kk3, oo3, nn3, bb3, cc3, aa3, qq3, rfl, hrel3, he27, hm13⟩)
     ·
      clear he26 hm12
      obtain ⟨hk3, hq3⟩ := hrel3
      refine wp_seq ?_
      refine wp_seqR ?_
      refine wl_val he27 rfl rfl (.int .i64 (((kk3 : Nat) : Int))) (rn_move _ (Or.inl rfl) _ (he27.tmp 7 _ rfl)) (fun a28 he28 => ?_)
      clear he27
      cases hd3 : (decide (((kk3 : Nat) : Int) > 0))
      ·
       have hd3p := of_decide_eq_false hd3
       refine wl_val he28 rfl rfl (.bool false) (rn_bin _ _ _ _ _ rfl .i64 _ _ (he28.tmp 44 _ rfl) rfl (.bool (decide (((kk3 : Nat) : Int) > 0))) _ rfl (congrArg Value.bool (hd3))) (fun a29 he29 => ?_)
       clear he28
       refine wl_end ?_
       refine wp_condF (he := he29) rfl ?_
       refine wp_exit ?_
       refine exit_then ?_
       refine exit_then ?_
       refine exit_here ?_
       refine then_normal ?_
       refine wp_seqR ?_
       refine wl_val he29 rfl rfl (.agg (#[.slice d1.1 d1.2.1 d1.2.2.1, .string (z0), .slice d2.1 d2.2.1 d2.2.2.1, .slice (some ⟨bb2, 0, none⟩) (nn2) (cc2), .slice none 0 0])) (rn_loadA hm13 3 rfl _ _ rfl (0) (he29.tmp 3 _ rfl) 5 agg44 (#[.slice d1.1 d1.2.1 d1.2.2.1, .string (z0), .slice d2.1 d2.2.1 d2.2.2.1, .slice (some ⟨bb2, 0, none⟩) (nn2) (cc2), .slice none 0 0]) rfl rfl) (fun a30 he30 => ?_)
       clear he29
       refine wl_store he30 hm13 2 rfl rfl rfl _ _ _ rfl (0) (he30.tmp 2 _ rfl) _ (he30.tmp 56 _ rfl) 5 agg44.size rfl (by kernel_rfl) (by simp) (#[.slice d1.1 d1.2.1 d1.2.2.1, .string (z0), .slice d2.1 d2.2.1 d2.2.2.1, .slice (some ⟨bb2, 0, none⟩) (nn2) (cc2), .slice none 0 0]) (by kernel_rfl) (fun w14 hm14 => ?_)
       clear hm13
       refine wl_end ?_
       refine wp_ret ?_
       exact bodyPost_ret (results_cell he30 hm14 _ _ Try.results16 _ rfl 2 rfl 5 agg44 (by first | rfl | assumption)) he30.defers ⟨⟨.slice d1.1 d1.2.1 d1.2.2.1, z0, .slice d2.1 d2.2.1 d2.2.2.1, .slice (some ⟨bb2, 0, none⟩) (nn2) (cc2), .slice none 0 0, qq3⟩, rfl, ⟨hz12, by show qq3 ≤ p + 700; omega⟩, hm14.keep, hm14.bx 1 _ _ _ _ rfl⟩
      ·
       have hd3p := of_decide_eq_true hd3
       refine wl_val he28 rfl rfl (.bool true) (rn_bin _ _ _ _ _ rfl .i64 _ _ (he28.tmp 44 _ rfl) rfl (.bool (decide (((kk3 : Nat) : Int) > 0))) _ rfl (congrArg Value.bool (hd3))) (fun a29 he29 => ?_)
       clear he28
       refine wl_end ?_
       refine wp_condT (he := he29) rfl ?_
       refine wp_skip ?_
       refine then_normal ?_
       refine wp_seq ?_
       refine wp_block ?_
       refine wh_begin (by kernel_rfl) hm13 [(2, ⟨true, b2, 44, #[.slice none 0 0, .string (⟨#[]⟩), .slice none 0 0, .slice none 0 0, .slice none 0 0]⟩), (4, ⟨true, ob, 5, oa⟩)] ⟨rfl, rfl, trivial⟩ (fun w14 hm14 => ?_)
       clear hm13
       refine tk (fuel := 8) (i := 0) ?_ he29 hm14 ⟨rfl, rfl, trivial⟩ (.pointer (some ⟨b3, 4, none⟩)) ?_ ?_ ?_ ?_ fun a30 he30 => ?_
       rotate_left
       rw [List.getElem?_toArray]; rfl
       exact ⟨by kernel_rfl, by kernel_rfl, by kernel_rfl⟩
       exact ⟨fun _ _ _ _ h => h, rfl, rfl⟩
       exact fun wS hmS => rn_field _ _ _ rfl _ (.pointer (some ⟨b3, 4, none⟩)) (he29.tmp 3 _ rfl) (by kernel_rfl)
       clear he29
       refine tk (fuel := 7) (i := 2) ?_ he30 hm14 ⟨rfl, rfl, trivial⟩ (.pointer (some ⟨B, 0, none⟩)) ?_ ?_ ?_ ?_ fun a31 he31 => ?_
       rotate_left
       rw [List.getElem?_toArray]; rfl
       exact ⟨by kernel_rfl, by kernel_rfl, by kernel_rfl⟩
       exact ⟨fun _ _ _ _ h => h, rfl, rfl⟩
       exact fun wS hmS => rn_move _ (Or.inl rfl) _ (he30.tmp 0 _ rfl)
       clear he30
       refine wpAnyH_ready (fuel := 6) (rs := [1, 3]) ?hr1u01001_1 (by simp) (AllReadyH.cons (o := ?o1u01001_1_0) ?hi1u01001_1_0 ?st1u01001_1_0 (AllReadyH.cons (o := ?o1u01001_1_1) ?hi1u01001_1_1 ?st1u01001_1_1 AllReadyH.nil))
       case hr1u01001_1 => kernel_rfl
       case hi1u01001_1_0 => rw [List.getElem?_toArray]; rfl
       case hi1u01001_1_1 => rw [List.getElem?_toArray]; rfl
       ·
        refine st_val he31 hm14 ⟨rfl, rfl, trivial⟩ rfl rfl (.slice none 0 0) (rn_load1 hm14 3 rfl _ _ rfl (4) (he31.tmp 48 _ rfl) one42 _ rfl) (fun a32 he32 => ?_)
        clear he31
        refine wh_build (i := 3) (op := ?op1d010010_3) (fuel := 5) ?hr1d010010_3 ?hi1d010010_3 he32 hm14 5 rfl ?hd1d010010_3 ?hw1d010010_3 42 6 #[(0, (.const (.int .i64 (0)))), (1, (.const (.int .i64 (1)))), (2, (.const (.int .i64 (2)))), (3, (.const (.int .i64 (3)))), (4, (.const (.int .i64 (7)))), (5, (.const (.int .i64 (9))))] ?ho1d010010_3 #[(0, .int .i64 (0)), (1, .int .i64 (1)), (2, .int .i64 (2)), (3, .int .i64 (3)), (4, .int .i64 (7)), (5, .int .i64 (9))] (by kernel_rfl) 3 (#[.int .i64 (0), .int .i64 (1), .int .i64 (2), .int .i64 (3), .int .i64 (7), .int .i64 (9)]) (fun w => by kernel_rfl) (fun _ => ⟨rfl, rfl, trivial⟩) (fun a33 w15 b5 he33 hm15 => ?k1d010010_3)
        case hi1d010010_3 => rw [List.getElem?_toArray]; rfl
        case hw1d010010_3 => exact rfl
        case hr1d010010_3 => kernel_rfl
        case hd1d010010_3 | ho1d010010_3 => rfl
        clear he32 hm14
        refine wh_callD (i := 4) (op := ?op1d010010_4) (fuel := 4) ?hr1d010010_4 ?hi1d010010_4 he33 hm15 1 rfl ?hd1d010010_4 ?hw1d010010_4 _ #[.pointer (some ⟨B, 0, none⟩), .slice (some ⟨b5, 0, none⟩) (6) (6)] ?en1d010010_4 (d_one (h.kb hm15.keep (hm15.bx 1 _ _ _ _ rfl)) (by omega) b5 [0, 1, 2, 3, 7, 9] _ (hm15.bx 5 _ _ _ _ rfl) rfl (hm15.apart 5 1 _ _ rfl rfl (by decide) rfl) (by decide) (by decide) _ rfl) (fun _ => ⟨rfl, rfl, trivial⟩) (fun d5 a34 w16 hd5 he34 hm16 => ?k1d010010_4)
        case hi1d010010_4 => rw [List.getElem?_toArray]; rfl
        case hw1d010010_4 => exact rfl
        case hr1d010010_4 => kernel_rfl
        case hd1d010010_4 => rfl
        case en1d010010_4 => exact (enter_call _ _ _ rfl 28 #[] #[] rfl #[.pointer (some ⟨B, 0, none⟩), .slice (some ⟨b5, 0, none⟩) (6) (6)] (map2 (he33.tmp 50 _ rfl) (he33.tmp 51 _ rfl)) #[.pointer (some ⟨B, 0, none⟩), .slice (some ⟨b5, 0, none⟩) (6) (6)] rfl (fun _ _ => by kernel_rfl))
        clear he33 hm15
        have hd5b : 0 ≤ d5 ∧ d5 ≤ 4294967295 := by simp at hd5; omega
        obtain ⟨d5n, rfl⟩ := Int.eq_ofNat_of_zero_le hd5b.1
        have hd5c : d5n ≤ 9 := by simp at hd5; omega
        refine wh_build (i := 5) (op := ?op1d010010_5) (fuel := 3) ?hr1d010010_5 ?hi1d010010_5 he34 hm16 6 rfl ?hd1d010010_5 ?hw1d010010_5 42 1 #[(0, (.tmp 52))] ?ho1d010010_5 #[(0, .int .i64 (((d5n : Nat) : Int)))] (pmap1 (he34.tmp 52 _ rfl)) 3 ((cellsOf i64A [((d5n : Nat) : Int)]).toArray) (fun w => by kernel_rfl) (fun _ => ⟨rfl, rfl, trivial⟩) (fun a35 w17 b6 he35 hm17 => ?k1d010010_5)
        case hi1d010010_5 => rw [List.getElem?_toArray]; rfl
        case hw1d010010_5 => exact rfl
        case hr1d010010_5 => kernel_rfl
        case hd1d010010_5 | ho1d010010_5 => rfl
        clear he34 hm16
        have rw6_0 : Rw ((cellsOf i64A [((d5n : Nat) : Int)]).toArray) 1 1 1 (cellsOf i64A ([((d5n : Nat) : Int)])) := Rw.lits i64A.sz [((d5n : Nat) : Int)] (by simp [maxLen])
        refine wh_append0 (i := 6) (op := ?op1d010010_6) (fuel := 2) ?hr1d010010_6 ?hi1d010010_6 he35 hm17 84 rfl ?hd1d010010_6 ?hw1d010010_6 (.tmp 49) (.tmp 53) 42 ?ho1d010010_6 el3 (he35.tmp 49 _ rfl) ⟨b6, 0, none⟩ 1 1 (he35.tmp 53 _ rfl) (by omega) (cellsOf i64A ([((d5n : Nat) : Int)])) (rw6_0.len) (fun j u hu => by rw [Addr.add_mid, Nat.zero_add, (hm17.bx 6 _ _ _ _ rfl).cell]; exact rw6_0.get j u hu) (by simp only [maxLen]; omega) (by omega) (fun _ _ => ⟨rfl, rfl, trivial⟩) (fun a36 w18 b84_36 cap84_36 cur84_36 he36 hm18 rw84_36 => ?k1d010010_6)
        case hi1d010010_6 => rw [List.getElem?_toArray]; rfl
        case hw1d010010_6 => exact rfl
        case hr1d010010_6 => kernel_rfl
        case hd1d010010_6 | ho1d010010_6 => rfl
        clear he35 hm17
        refine tk (fuel := 1) (i := 7) ?_ he36 hm18 ⟨rfl, rfl, trivial⟩ (.pointer (some ⟨b3, 4, none⟩)) ?_ ?_ ?_ ?_ fun a37 he37 => ?_
        rotate_left
        rw [List.getElem?_toArray]; rfl
        exact ⟨by kernel_rfl, by kernel_rfl, by kernel_rfl⟩
        exact ⟨fun _ _ _ _ h => h, rfl, rfl⟩
        exact fun wS hmS => rn_field _ _ _ rfl _ (.pointer (some ⟨b3, 4, none⟩)) (he36.tmp 3 _ rfl) (by kernel_rfl)
        clear he36
        refine wh_store (i := 8) (op := ?op1d010010_8) (fuel := 0) ?hr1d010010_8 ?hi1d010010_8 he37 hm18 3 rfl ?hd1d010010_8 ?hw1d010010_8 42 (.tmp 55) (.tmp 54) ?ho1d010010_8 (4) (he37.tmp 55 _ rfl) _ (he37.tmp 54 _ rfl) 1 one42.size rfl (by kernel_rfl) (by simp) (#[.slice d1.1 d1.2.1 d1.2.2.1, .string (z0), .slice d2.1 d2.2.1 d2.2.2.1, .slice (some ⟨bb2, 0, none⟩) (nn2) (cc2), .slice (some ⟨b84_36, 0, none⟩) (1) (cap84_36)]) (by kernel_rfl) ⟨rfl, rfl, trivial⟩ (fun w19 hm19 => ?k1d010010_8)
        case hi1d010010_8 => rw [List.getElem?_toArray]; rfl
        case hw1d010010_8 => exact rfl
        case hr1d010010_8 => kernel_rfl
        case hd1d010010_8 | ho1d010010_8 => rfl
        clear hm18
        refine wpAnyH_done (by kernel_rfl) ?_ _
        refine in_normal ?_
        refine then_normal ?_
        refine wp_region_lit ?_
        refine wl_val he37 rfl rfl (.int .i64 (((kk3 : Nat) : Int))) (rn_move _ (Or.inl rfl) _ (he37.tmp 7 _ rfl)) (fun a38 he38 => ?_)
        clear he37
        refine wl_val he38 rfl rfl (.int .i64 (((kk3 - 1 : Nat) : Int))) (rn_bin _ _ _ _ _ rfl .i64 _ _ (he38.tmp 46 _ rfl) rfl (.int .i64 (IntKind.wrap .i64 (((kk3 : Nat) : Int) - 1))) _ rfl (subN (i := kk3) (c := 1) .i64 (by omega) (by rw [IntKind.wrap_i64]; omega))) (fun a39 he39 => ?_)
        clear he38
        refine wl_val he39 rfl rfl (.int .i64 (((kk3 - 1 : Nat) : Int))) (rn_move _ (Or.inr rfl) _ (he39.tmp 47 _ rfl)) (fun a40 he40 => ?_)
        clear he39
        refine wpList_nil ?_
        exact ⟨1 * (kk3 - 1), by omega, Or.inr ⟨kk3 - 1, [((d5n : Nat) : Int)], 1, b84_36, cap84_36, cur84_36, qq3 + 1, rfl, ⟨by simp, by omega, rw84_36, by omega⟩, he40.sub _ ⟨rfl, rfl, rfl, rfl, rfl, rfl, rfl, rfl, rfl, rfl, rfl, rfl, rfl, rfl, rfl, rfl, rfl, rfl, rfl, rfl, rfl, rfl, rfl, rfl, rfl, trivial⟩, hm19.sub _ ⟨rfl, rfl, rfl, rfl, rfl, rfl, trivial⟩⟩⟩
       ·
        refine st_build he31 hm14 5 rfl rfl rfl _ _ _ rfl #[(0, .int .i64 (0)), (1, .int .i64 (1)), (2, .int .i64 (2)), (3, .int .i64 (3)), (4, .int .i64 (7)), (5, .int .i64 (9))] (by kernel_rfl) 3 (#[.int .i64 (0), .int .i64 (1), .int .i64 (2), .int .i64 (3), .int .i64 (7), .int .i64 (9)]) (fun w => by kernel_rfl) (fun _ => ⟨rfl, rfl, trivial⟩) (fun a32 w15 b5 he32 hm15 => ?_)
        clear he31 hm14
        refine wpAnyH_ready (fuel := 5) (rs := [1, 4]) ?hr1u010011_2 (by simp) (AllReadyH.cons (o := ?o1u010011_2_0) ?hi1u010011_2_0 ?st1u010011_2_0 (AllReadyH.cons (o := ?o1u010011_2_1) ?hi1u010011_2_1 ?st1u010011_2_1 AllReadyH.nil))
        case hr1u010011_2 => kernel_rfl
        case hi1u010011_2_0 => rw [List.getElem?_toArray]; rfl
        case hi1u010011_2_1 => rw [List.getElem?_toArray]; rfl
        ·
         refine st_val he32 hm15 ⟨rfl, rfl, trivial⟩ rfl rfl (.slice none 0 0) (rn_load1 hm15 3 rfl _ _ rfl (4) (he32.tmp 48 _ rfl) one42 _ rfl) (fun a33 he33 => ?_)
         clear he32
         refine wh_callD (i := 4) (op := ?op1d0100110_4) (fuel := 4) ?hr1d0100110_4 ?hi1d0100110_4 he33 hm15 1 rfl ?hd1d0100110_4 ?hw1d0100110_4 _ #[.pointer (some ⟨B, 0, none⟩), .slice (some ⟨b5, 0, none⟩) (6) (6)] ?en1d0100110_4 (d_one (h.kb hm15.keep (hm15.bx 1 _ _ _ _ rfl)) (by omega) b5 [0, 1, 2, 3, 7, 9] _ (hm15.bx 5 _ _ _ _ rfl) rfl (hm15.apart 5 1 _ _ rfl rfl (by decide) rfl) (by decide) (by decide) _ rfl) (fun _ => ⟨rfl, rfl, trivial⟩) (fun d5 a34 w16 hd5 he34 hm16 => ?k1d0100110_4)
         case hi1d0100110_4 => rw [List.getElem?_toArray]; rfl
         case hw1d0100110_4 => exact rfl
         case hr1d0100110_4 => kernel_rfl
         case hd1d0100110_4 => rfl
         case en1d0100110_4 => exact (enter_call _ _ _ rfl 28 #[] #[] rfl #[.pointer (some ⟨B, 0, none⟩), .slice (some ⟨b5, 0, none⟩) (6) (6)] (map2 (he33.tmp 50 _ rfl) (he33.tmp 51 _ rfl)) #[.pointer (some ⟨B, 0, none⟩), .slice (some ⟨b5, 0, none⟩) (6) (6)] rfl (fun _ _ => by kernel_rfl))
         clear he33 hm15
         have hd5b : 0 ≤ d5 ∧ d5 ≤ 4294967295 := by simp at hd5; omega
         obtain ⟨d5n, rfl⟩ := Int.eq_ofNat_of_zero_le hd5b.1
         have hd5c : d5n ≤ 9 := by simp at hd5; omega
         refine wh_build (i := 5) (op := ?op1d0100110_5) (fuel := 3) ?hr1d0100110_5 ?hi1d0100110_5 he34 hm16 6 rfl ?hd1d0100110_5 ?hw1d0100110_5 42 1 #[(0, (.tmp 52))] ?ho1d0100110_5 #[(0, .int .i64 (((d5n : Nat) : Int)))] (pmap1 (he34.tmp 52 _ rfl)) 3 ((cellsOf i64A [((d5n : Nat) : Int)]).toArray) (fun w => by kernel_rfl) (fun _ => ⟨rfl, rfl, trivial⟩) (fun a35 w17 b6 he35 hm17 => ?k1d0100110_5)
         case hi1d0100110_5 => rw [List.getElem?_toArray]; rfl
         case hw1d0100110_5 => exact rfl
         case hr1d0100110_5 => kernel_rfl
         case hd1d0100110_5 | ho1d0100110_5 => rfl
         clear he34 hm16
         have rw6_0 : Rw ((cellsOf i64A [((d5n : Nat) : Int)]).toArray) 1 1 1 (cellsOf i64A ([((d5n : Nat) : Int)])) := Rw.lits i64A.sz [((d5n : Nat) : Int)] (by simp [maxLen])
         refine wh_append0 (i := 6) (op := ?op1d0100110_6) (fuel := 2) ?hr1d0100110_6 ?hi1d0100110_6 he35 hm17 84 rfl ?hd1d0100110_6 ?hw1d0100110_6 (.tmp 49) (.tmp 53) 42 ?ho1d0100110_6 el3 (he35.tmp 49 _ rfl) ⟨b6, 0, none⟩ 1 1 (he35.tmp 53 _ rfl) (by omega) (cellsOf i64A ([((d5n : Nat) : Int)])) (rw6_0.len) (fun j u hu => by rw [Addr.add_mid, Nat.zero_add, (hm17.bx 6 _ _ _ _ rfl).cell]; exact rw6_0.get j u hu) (by simp only [maxLen]; omega) (by omega) (fun _ _ => ⟨rfl, rfl, trivial⟩) (fun a36 w18 b84_36 cap84_36 cur84_36 he36 hm18 rw84_36 => ?k1d0100110_6)
         case hi1d0100110_6 => rw [List.getElem?_toArray]; rfl
         case hw1d0100110_6 => exact rfl
         case hr1d0100110_6 => kernel_rfl
         case hd1d0100110_6 | ho1d0100110_6 => rfl
         clear he35 hm17
         refine tk (fuel := 1) (i := 7) ?_ he36 hm18 ⟨rfl, rfl, trivial⟩ (.pointer (some ⟨b3, 4, none⟩)) ?_ ?_ ?_ ?_ fun a37 he37 => ?_
         rotate_left
         rw [List.getElem?_toArray]; rfl
         exact ⟨by kernel_rfl, by kernel_rfl, by kernel_rfl⟩
         exact ⟨fun _ _ _ _ h => h, rfl, rfl⟩
         exact fun wS hmS => rn_field _ _ _ rfl _ (.pointer (some ⟨b3, 4, none⟩)) (he36.tmp 3 _ rfl) (by kernel_rfl)
         clear he36
         refine wh_store (i := 8) (op := ?op1d0100110_8) (fuel := 0) ?hr1d0100110_8 ?hi1d0100110_8 he37 hm18 3 rfl ?hd1d0100110_8 ?hw1d0100110_8 42 (.tmp 55) (.tmp 54) ?ho1d0100110_8 (4) (he37.tmp 55 _ rfl) _ (he37.tmp 54 _ rfl) 1 one42.size rfl (by kernel_rfl) (by simp) (#[.slice d1.1 d1.2.1 d1.2.2.1, .string (z0), .slice d2.1 d2.2.1 d2.2.2.1, .slice (some ⟨bb2, 0, none⟩) (nn2) (cc2), .slice (some ⟨b84_36, 0, none⟩) (1) (cap84_36)]) (by kernel_rfl) ⟨rfl, rfl, trivial⟩ (fun w19 hm19 => ?k1d0100110_8)
         case hi1d0100110_8 => rw [List.getElem?_toArray]; rfl
         case hw1d0100110_8 => exact rfl
         case hr1d0100110_8 => kernel_rfl
         case hd1d0100110_8 | ho1d0100110_8 => rfl
         clear hm18
         refine wpAnyH_done (by kernel_rfl) ?_ _
         refine in_normal ?_
         refine then_normal ?_
         refine wp_region_lit ?_
         refine wl_val he37 rfl rfl (.int .i64 (((kk3 : Nat) : Int))) (rn_move _ (Or.inl rfl) _ (he37.tmp 7 _ rfl)) (fun a38 he38 => ?_)
         clear he37
         refine wl_val he38 rfl rfl (.int .i64 (((kk3 - 1 : Nat) : Int))) (rn_bin _ _ _ _ _ rfl .i64 _ _ (he38.tmp 46 _ rfl) rfl (.int .i64 (IntKind.wrap .i64 (((kk3 : Nat) : Int) - 1))) _ rfl (subN (i := kk3) (c := 1) .i64 (by omega) (by rw [IntKind.wrap_i64]; omega))) (fun a39 he39 => ?_)
         clear he38
         refine wl_val he39 rfl rfl (.int .i64 (((kk3 - 1 : Nat) : Int))) (rn_move _ (Or.inr rfl) _ (he39.tmp 47 _ rfl)) (fun a40 he40 => ?_)
         clear he39
         refine wpList_nil ?_
         exact ⟨1 * (kk3 - 1), by omega, Or.inr ⟨kk3 - 1, [((d5n : Nat) : Int)], 1, b84_36, cap84_36, cur84_36, qq3 + 1, rfl, ⟨by simp, by omega, rw84_36, by omega⟩, he40.sub _ ⟨rfl, rfl, rfl, rfl, rfl, rfl, rfl, rfl, rfl, rfl, rfl, rfl, rfl, rfl, rfl, rfl, rfl, rfl, rfl, rfl, rfl, rfl, rfl, rfl, rfl, trivial⟩, hm19.sub _ ⟨rfl, rfl, rfl, rfl, rfl, rfl, trivial⟩⟩⟩
        ·
         refine st_callD he32 hm15 1 rfl (fun _ => ⟨rfl, rfl, trivial⟩) rfl rfl _ #[.pointer (some ⟨B, 0, none⟩), .slice (some ⟨b5, 0, none⟩) (6) (6)] (enter_call _ _ _ rfl 28 #[] #[] rfl #[.pointer (some ⟨B, 0, none⟩), .slice (some ⟨b5, 0, none⟩) (6) (6)] (map2 (he32.tmp 50 _ rfl) (he32.tmp 51 _ rfl)) #[.pointer (some ⟨B, 0, none⟩), .slice (some ⟨b5, 0, none⟩) (6) (6)] rfl (fun _ _ => by kernel_rfl)) (d_one (h.kb hm15.keep (hm15.bx 1 _ _ _ _ rfl)) (by omega) b5 [0, 1, 2, 3, 7, 9] _ (hm15.bx 5 _ _ _ _ rfl) rfl (hm15.apart 5 1 _ _ rfl rfl (by decide) rfl) (by decide) (by decide) _ rfl) (fun d5 a33 w16 hd5 he33 hm16 => ?_)
         clear he32 hm15
         have hd5b : 0 ≤ d5 ∧ d5 ≤ 4294967295 := by simp at hd5; omega
         obtain ⟨d5n, rfl⟩ := Int.eq_ofNat_of_zero_le hd5b.1
         have hd5c : d5n ≤ 9 := by simp at hd5; omega
         refine wpAnyH_ready (fuel := 4) (rs := [1, 5]) ?hr1u0100111_3 (by simp) (AllReadyH.cons (o := ?o1u0100111_3_0) ?hi1u0100111_3_0 ?st1u0100111_3_0 (AllReadyH.cons (o := ?o1u0100111_3_1) ?hi1u0100111_3_1 ?st1u0100111_3_1 AllReadyH.nil))
         case hr1u0100111_3 => kernel_rfl
         case hi1u0100111_3_0 => rw [List.getElem?_toArray]; rfl
         case hi1u0100111_3_1 => rw [List.getElem?_toArray]; rfl
         ·
          refine st_val he33 hm16 ⟨rfl, rfl, trivial⟩ rfl rfl (.slice none 0 0) (rn_load1 hm16 3 rfl _ _ rfl (4) (he33.tmp 48 _ rfl) one42 _ rfl) (fun a34 he34 => ?_)
          clear he33
          refine wh_build (i := 5) (op := ?op1d01001110_5) (fuel := 3) ?hr1d01001110_5 ?hi1d01001110_5 he34 hm16 6 rfl ?hd1d01001110_5 ?hw1d01001110_5 42 1 #[(0, (.tmp 52))] ?ho1d01001110_5 #[(0, .int .i64 (((d5n : Nat) : Int)))] (pmap1 (he34.tmp 52 _ rfl)) 3 ((cellsOf i64A [((d5n : Nat) : Int)]).toArray) (fun w => by kernel_rfl) (fun _ => ⟨rfl, rfl, trivial⟩) (fun a35 w17 b6 he35 hm17 => ?k1d01001110_5)
          case hi1d01001110_5 => rw [List.getElem?_toArray]; rfl
          case hw1d01001110_5 => exact rfl
          case hr1d01001110_5 => kernel_rfl
          case hd1d01001110_5 | ho1d01001110_5 => rfl
          clear he34 hm16
          have rw6_0 : Rw ((cellsOf i64A [((d5n : Nat) : Int)]).toArray) 1 1 1 (cellsOf i64A ([((d5n : Nat) : Int)])) := Rw.lits i64A.sz [((d5n : Nat) : Int)] (by simp [maxLen])
          refine wh_append0 (i := 6) (op := ?op1d01001110_6) (fuel := 2) ?hr1d01001110_6 ?hi1d01001110_6 he35 hm17 84 rfl ?hd1d01001110_6 ?hw1d01001110_6 (.tmp 49) (.tmp 53) 42 ?ho1d01001110_6 el3 (he35.tmp 49 _ rfl) ⟨b6, 0, none⟩ 1 1 (he35.tmp 53 _ rfl) (by omega) (cellsOf i64A ([((d5n : Nat) : Int)])) (rw6_0.len) (fun j u hu => by rw [Addr.add_mid, Nat.zero_add, (hm17.bx 6 _ _ _ _ rfl).cell]; exact rw6_0.get j u hu) (by simp only [maxLen]; omega) (by omega) (fun _ _ => ⟨rfl, rfl, trivial⟩) (fun a36 w18 b84_36 cap84_36 cur84_36 he36 hm18 rw84_36 => ?k1d01001110_6)
          case hi1d01001110_6 => rw [List.getElem?_toArray]; rfl
          case hw1d01001110_6 => exact rfl
          case hr1d01001110_6 => kernel_rfl
          case hd1d01001110_6 | ho1d01001110_6 => rfl
          clear he35 hm17
          refine tk (fuel := 1) (i := 7) ?_ he36 hm18 ⟨rfl, rfl, trivial⟩ (.pointer (some ⟨b3, 4, none⟩)) ?_ ?_ ?_ ?_ fun a37 he37 => ?_
          rotate_left
          rw [List.getElem?_toArray]; rfl
          exact ⟨by kernel_rfl, by kernel_rfl, by kernel_rfl⟩
          exact ⟨fun _ _ _ _ h => h, rfl, rfl⟩
          exact fun wS hmS => rn_field _ _ _ rfl _ (.pointer (some ⟨b3, 4, none⟩)) (he36.tmp 3 _ rfl) (by kernel_rfl)
          clear he36
          refine wh_store (i := 8) (op := ?op1d01001110_8) (fuel := 0) ?hr1d01001110_8 ?hi1d01001110_8 he37 hm18 3 rfl ?hd1d01001110_8 ?hw1d01001110_8 42 (.tmp 55) (.tmp 54) ?ho1d01001110_8 (4) (he37.tmp 55 _ rfl) _ (he37.tmp 54 _ rfl) 1 one42.size rfl (by kernel_rfl) (by simp) (#[.slice d1.1 d1.2.1 d1.2.2.1, .string (z0), .slice d2.1 d2.2.1 d2.2.2.1, .slice (some ⟨bb2, 0, none⟩) (nn2) (cc2), .slice (some ⟨b84_36, 0, none⟩) (1) (cap84_36)]) (by kernel_rfl) ⟨rfl, rfl, trivial⟩ (fun w19 hm19 => ?k1d01001110_8)
          case hi1d01001110_8 => rw [List.getElem?_toArray]; rfl
          case hw1d01001110_8 => exact rfl
          case hr1d01001110_8 => kernel_rfl
          case hd1d01001110_8 | ho1d01001110_8 => rfl
          clear hm18
          refine wpAnyH_done (by kernel_rfl) ?_ _
          refine in_normal ?_
          refine then_normal ?_
          refine wp_region_lit ?_
          refine wl_val he37 rfl rfl (.int .i64 (((kk3 : Nat) : Int))) (rn_move _ (Or.inl rfl) _ (he37.tmp 7 _ rfl)) (fun a38 he38 => ?_)
          clear he37
          refine wl_val he38 rfl rfl (.int .i64 (((kk3 - 1 : Nat) : Int))) (rn_bin _ _ _ _ _ rfl .i64 _ _ (he38.tmp 46 _ rfl) rfl (.int .i64 (IntKind.wrap .i64 (((kk3 : Nat) : Int) - 1))) _ rfl (subN (i := kk3) (c := 1) .i64 (by omega) (by rw [IntKind.wrap_i64]; omega))) (fun a39 he39 => ?_)
          clear he38
          refine wl_val he39 rfl rfl (.int .i64 (((kk3 - 1 : Nat) : Int))) (rn_move _ (Or.inr rfl) _ (he39.tmp 47 _ rfl)) (fun a40 he40 => ?_)
          clear he39
          refine wpList_nil ?_
          exact ⟨1 * (kk3 - 1), by omega, Or.inr ⟨kk3 - 1, [((d5n : Nat) : Int)], 1, b84_36, cap84_36, cur84_36, qq3 + 1, rfl, ⟨by simp, by omega, rw84_36, by omega⟩, he40.sub _ ⟨rfl, rfl, rfl, rfl, rfl, rfl, rfl, rfl, rfl, rfl, rfl, rfl, rfl, rfl, rfl, rfl, rfl, rfl, rfl, rfl, rfl, rfl, rfl, rfl, rfl, trivial⟩, hm19.sub _ ⟨rfl, rfl, rfl, rfl, rfl, rfl, trivial⟩⟩⟩
         ·
          refine st_build he33 hm16 6 rfl rfl rfl _ _ _ rfl #[(0, .int .i64 (((d5n : Nat) : Int)))] (pmap1 (he33.tmp 52 _ rfl)) 3 ((cellsOf i64A [((d5n : Nat) : Int)]).toArray) (fun w => by kernel_rfl) (fun _ => ⟨rfl, rfl, trivial⟩) (fun a34 w17 b6 he34 hm17 => ?_)
          clear he33 hm16
          have rw6_0 : Rw ((cellsOf i64A [((d5n : Nat) : Int)]).toArray) 1 1 1 (cellsOf i64A ([((d5n : Nat) : Int)])) := Rw.lits i64A.sz [((d5n : Nat) : Int)] (by simp [maxLen])
          refine wpAnyH_ready (fuel := 3) (rs := [1]) ?hr1u01001111_4 (by simp) (AllReadyH.cons (o := ?o1u01001111_4_0) ?hi1u01001111_4_0 ?st1u01001111_4_0 AllReadyH.nil)
          case hr1u01001111_4 => kernel_rfl
          case hi1u01001111_4_0 => rw [List.getElem?_toArray]; rfl
          refine st_val he34 hm17 ⟨rfl, rfl, trivial⟩ rfl rfl (.slice none 0 0) (rn_load1 hm17 3 rfl _ _ rfl (4) (he34.tmp 48 _ rfl) one42 _ rfl) (fun a35 he35 => ?_)
          clear he34
          refine wh_append0 (i := 6) (op := ?op1d01001111_6) (fuel := 2) ?hr1d01001111_6 ?hi1d01001111_6 he35 hm17 84 rfl ?hd1d01001111_6 ?hw1d01001111_6 (.tmp 49) (.tmp 53) 42 ?ho1d01001111_6 el3 (he35.tmp 49 _ rfl) ⟨b6, 0, none⟩ 1 1 (he35.tmp 53 _ rfl) (by omega) (cellsOf i64A ([((d5n : Nat) : Int)])) (rw6_0.len) (fun j u hu => by rw [Addr.add_mid, Nat.zero_add, (hm17.bx 6 _ _ _ _ rfl).cell]; exact rw6_0.get j u hu) (by simp only [maxLen]; omega) (by omega) (fun _ _ => ⟨rfl, rfl, trivial⟩) (fun a36 w18 b84_36 cap84_36 cur84_36 he36 hm18 rw84_36 => ?k1d01001111_6)
          case hi1d01001111_6 => rw [List.getElem?_toArray]; rfl
          case hw1d01001111_6 => exact rfl
          case hr1d01001111_6 => kernel_rfl
          case hd1d01001111_6 | ho1d01001111_6 => rfl
          clear he35 hm17
          refine tk (fuel := 1) (i := 7) ?_ he36 hm18 ⟨rfl, rfl, trivial⟩ (.pointer (some ⟨b3, 4, none⟩)) ?_ ?_ ?_ ?_ fun a37 he37 => ?_
          rotate_left
          rw [List.getElem?_toArray]; rfl
          exact ⟨by kernel_rfl, by kernel_rfl, by kernel_rfl⟩
          exact ⟨fun _ _ _ _ h => h, rfl, rfl⟩
          exact fun wS hmS => rn_field _ _ _ rfl _ (.pointer (some ⟨b3, 4, none⟩)) (he36.tmp 3 _ rfl) (by kernel_rfl)
          clear he36
          refine wh_store (i := 8) (op := ?op1d01001111_8) (fuel := 0) ?hr1d01001111_8 ?hi1d01001111_8 he37 hm18 3 rfl ?hd1d01001111_8 ?hw1d01001111_8 42 (.tmp 55) (.tmp 54) ?ho1d01001111_8 (4) (he37.tmp 55 _ rfl) _ (he37.tmp 54 _ rfl) 1 one42.size rfl (by kernel_rfl) (by simp) (#[.slice d1.1 d1.2.1 d1.2.2.1, .string (z0), .slice d2.1 d2.2.1 d2.2.2.1, .slice (some ⟨bb2, 0, none⟩) (nn2) (cc2), .slice (some ⟨b84_36, 0, none⟩) (1) (cap84_36)]) (by kernel_rfl) ⟨rfl, rfl, trivial⟩ (fun w19 hm19 => ?k1d01001111_8)
          case hi1d01001111_8 => rw [List.getElem?_toArray]; rfl
          case hw1d01001111_8 => exact rfl
          case hr1d01001111_8 => kernel_rfl
          case hd1d01001111_8 | ho1d01001111_8 => rfl
          clear hm18
          refine wpAnyH_done (by kernel_rfl) ?_ _
          refine in_normal ?_
          refine then_normal ?_
          refine wp_region_lit ?_
          refine wl_val he37 rfl rfl (.int .i64 (((kk3 : Nat) : Int))) (rn_move _ (Or.inl rfl) _ (he37.tmp 7 _ rfl)) (fun a38 he38 => ?_)
          clear he37
          refine wl_val he38 rfl rfl (.int .i64 (((kk3 - 1 : Nat) : Int))) (rn_bin _ _ _ _ _ rfl .i64 _ _ (he38.tmp 46 _ rfl) rfl (.int .i64 (IntKind.wrap .i64 (((kk3 : Nat) : Int) - 1))) _ rfl (subN (i := kk3) (c := 1) .i64 (by omega) (by rw [IntKind.wrap_i64]; omega))) (fun a39 he39 => ?_)
          clear he38
          refine wl_val he39 rfl rfl (.int .i64 (((kk3 - 1 : Nat) : Int))) (rn_move _ (Or.inr rfl) _ (he39.tmp 47 _ rfl)) (fun a40 he40 => ?_)
          clear he39
          refine wpList_nil ?_
          exact ⟨1 * (kk3 - 1), by omega, Or.inr ⟨kk3 - 1, [((d5n : Nat) : Int)], 1, b84_36, cap84_36, cur84_36, qq3 + 1, rfl, ⟨by simp, by omega, rw84_36, by omega⟩, he40.sub _ ⟨rfl, rfl, rfl, rfl, rfl, rfl, rfl, rfl, rfl, rfl, rfl, rfl, rfl, rfl, rfl, rfl, rfl, rfl, rfl, rfl, rfl, rfl, rfl, rfl, rfl, trivial⟩, hm19.sub _ ⟨rfl, rfl, rfl, rfl, rfl, rfl, trivial⟩⟩⟩
     ·
      clear he26 hm12
      obtain ⟨hn3, hk3, rw3o, hq3⟩ := hrel3
      refine wp_seq ?_
      refine wp_seqR ?_
      refine wl_val he27 rfl rfl (.int .i64 (((kk3 : Nat) : Int))) (rn_move _ (Or.inl rfl) _ (he27.tmp 7 _ rfl)) (fun a28 he28 => ?_)
      clear he27
      cases hd3 : (decide (((kk3 : Nat) : Int) > 0))
      ·
       have hd3p := of_decide_eq_false hd3
       refine wl_val he28 rfl rfl (.bool false) (rn_bin _ _ _ _ _ rfl .i64 _ _ (he28.tmp 44 _ rfl) rfl (.bool (decide (((kk3 : Nat) : Int) > 0))) _ rfl (congrArg Value.bool (hd3))) (fun a29 he29 => ?_)
       clear he28
       refine wl_end ?_
       refine wp_condF (he := he29) rfl ?_
       refine wp_exit ?_
       refine exit_then ?_
       refine exit_then ?_
       refine exit_here ?_
       refine then_normal ?_
       refine wp_seqR ?_
       refine wl_val he29 rfl rfl (.agg (#[.slice d1.1 d1.2.1 d1.2.2.1, .string (z0), .slice d2.1 d2.2.1 d2.2.2.1, .slice (some ⟨bb2, 0, none⟩) (nn2) (cc2), .slice (some ⟨bb3, 0, none⟩) (nn3) (cc3)])) (rn_loadA hm13 3 rfl _ _ rfl (0) (he29.tmp 3 _ rfl) 5 agg44 (#[.slice d1.1 d1.2.1 d1.2.2.1, .string (z0), .slice d2.1 d2.2.1 d2.2.2.1, .slice (some ⟨bb2, 0, none⟩) (nn2) (cc2), .slice (some ⟨bb3, 0, none⟩) (nn3) (cc3)]) rfl rfl) (fun a30 he30 => ?_)
       clear he29
       refine wl_store he30 hm13 2 rfl rfl rfl _ _ _ rfl (0) (he30.tmp 2 _ rfl) _ (he30.tmp 56 _ rfl) 5 agg44.size rfl (by kernel_rfl) (by simp) (#[.slice d1.1 d1.2.1 d1.2.2.1, .string (z0), .slice d2.1 d2.2.1 d2.2.2.1, .slice (some ⟨bb2, 0, none⟩) (nn2) (cc2), .slice (some ⟨bb3, 0, none⟩) (nn3) (cc3)]) (by kernel_rfl) (fun w14 hm14 => ?_)
       clear hm13
       refine wl_end ?_
       refine wp_ret ?_
       exact bodyPost_ret (results_cell he30 hm14 _ _ Try.results16 _ rfl 2 rfl 5 agg44 (by first | rfl | assumption)) he30.defers ⟨⟨.slice d1.1 d1.2.1 d1.2.2.1, z0, .slice d2.1 d2.2.1 d2.2.2.1, .slice (some ⟨bb2, 0, none⟩) (nn2) (cc2), .slice (some ⟨bb3, 0, none⟩) (nn3) (cc3), qq3⟩, rfl, ⟨hz12, by show qq3 ≤ p + 700; omega⟩, hm14.keep, hm14.bx 1 _ _ _ _ rfl⟩
      ·
       have hd3p := of_decide_eq_true hd3
       refine wl_val he28 rfl rfl (.bool true) (rn_bin _ _ _ _ _ rfl .i64 _ _ (he28.tmp 44 _ rfl) rfl (.bool (decide (((kk3 : Nat) : Int) > 0))) _ rfl (congrArg Value.bool (hd3))) (fun a29 he29 => ?_)
       clear he28
       refine wl_end ?_
       refine wp_condT (he := he29) rfl ?_
       refine wp_skip ?_
       refine then_normal ?_
       refine wp_seq ?_
       refine wp_block ?_
       refine wh_begin (by kernel_rfl) hm13 [(2, ⟨true, b2, 44, #[.slice none 0 0, .string (⟨#[]⟩), .slice none 0 0, .slice none 0 0, .slice none 0 0]⟩), (4, ⟨true, ob, 5, oa⟩)] ⟨rfl, rfl, trivial⟩ (fun w14 hm14 => ?_)
       clear hm13
       refine tk (fuel := 8) (i := 0) ?_ he29 hm14 ⟨rfl, rfl, trivial⟩ (.pointer (some ⟨b3, 4, none⟩)) ?_ ?_ ?_ ?_ fun a30 he30 => ?_
       rotate_left
       rw [List.getElem?_toArray]; rfl
       exact ⟨by kernel_rfl, by kernel_rfl, by kernel_rfl⟩
       exact ⟨fun _ _ _ _ h => h, rfl, rfl⟩
       exact fun wS hmS => rn_field _ _ _ rfl _ (.pointer (some ⟨b3, 4, none⟩)) (he29.tmp 3 _ rfl) (by kernel_rfl)
       clear he29
       refine tk (fuel := 7) (i := 2) ?_ he30 hm14 ⟨rfl, rfl, trivial⟩ (.pointer (some ⟨B, 0, none⟩)) ?_ ?_ ?_ ?_ fun a31 he31 => ?_
       rotate_left
       rw [List.getElem?_toArray]; rfl
       exact ⟨by kernel_rfl, by kernel_rfl, by kernel_rfl⟩
       exact ⟨fun _ _ _ _ h => h, rfl, rfl⟩
       exact fun wS hmS => rn_move _ (Or.inl rfl) _ (he30.tmp 0 _ rfl)
       clear he30
       refine wpAnyH_ready (fuel := 6) (rs := [1, 3]) ?hr1u01011_1 (by simp) (AllReadyH.cons (o := ?o1u01011_1_0) ?hi1u01011_1_0 ?st1u01011_1_0 (AllReadyH.cons (o := ?o1u01011_1_1) ?hi1u01011_1_1 ?st1u01011_1_1 AllReadyH.nil))
       case hr1u01011_1 => kernel_rfl
       case hi1u01011_1_0 => rw [List.getElem?_toArray]; rfl
       case hi1u01011_1_1 => rw [List.getElem?_toArray]; rfl
       ·
        refine st_val he31 hm14 ⟨rfl, rfl, trivial⟩ rfl rfl (.slice (some ⟨bb3, 0, none⟩) (nn3) (cc3)) (rn_load1 hm14 3 rfl _ _ rfl (4) (he31.tmp 48 _ rfl) one42 _ rfl) (fun a32 he32 => ?_)
        clear he31
        refine wh_build (i := 3) (op := ?op1d010110_3) (fuel := 5) ?hr1d010110_3 ?hi1d010110_3 he32 hm14 5 rfl ?hd1d010110_3 ?hw1d010110_3 42 6 #[(0, (.const (.int .i64 (0)))), (1, (.const (.int .i64 (1)))), (2, (.const (.int .i64 (2)))), (3, (.const (.int .i64 (3)))), (4, (.const (.int .i64 (7)))), (5, (.const (.int .i64 (9))))] ?ho1d010110_3 #[(0, .int .i64 (0)), (1, .int .i64 (1)), (2, .int .i64 (2)), (3, .int .i64 (3)), (4, .int .i64 (7)), (5, .int .i64 (9))] (by kernel_rfl) 3 (#[.int .i64 (0), .int .i64 (1), .int .i64 (2), .int .i64 (3), .int .i64 (7), .int .i64 (9)]) (fun w => by kernel_rfl) (fun _ => ⟨rfl, rfl, trivial⟩) (fun a33 w15 b5 he33 hm15 => ?k1d010110_3)
        case hi1d010110_3 => rw [List.getElem?_toArray]; rfl
        case hw1d010110_3 => exact rfl
        case hr1d010110_3 => kernel_rfl
        case hd1d010110_3 | ho1d010110_3 => rfl
        clear he32 hm14
        refine wh_callD (i := 4) (op := ?op1d010110_4) (fuel := 4) ?hr1d010110_4 ?hi1d010110_4 he33 hm15 1 rfl ?hd1d010110_4 ?hw1d010110_4 _ #[.pointer (some ⟨B, 0, none⟩), .slice (some ⟨b5, 0, none⟩) (6) (6)] ?en1d010110_4 (d_one (h.kb hm15.keep (hm15.bx 1 _ _ _ _ rfl)) (by omega) b5 [0, 1, 2, 3, 7, 9] _ (hm15.bx 5 _ _ _ _ rfl) rfl (hm15.apart 5 1 _ _ rfl rfl (by decide) rfl) (by decide) (by decide) _ rfl) (fun _ => ⟨rfl, rfl, trivial⟩) (fun d5 a34 w16 hd5 he34 hm16 => ?k1d010110_4)
        case hi1d010110_4 => rw [List.getElem?_toArray]; rfl
        case hw1d010110_4 => exact rfl
        case hr1d010110_4 => kernel_rfl
        case hd1d010110_4 => rfl
        case en1d010110_4 => exact (enter_call _ _ _ rfl 28 #[] #[] rfl #[.pointer (some ⟨B, 0, none⟩), .slice (some ⟨b5, 0, none⟩) (6) (6)] (map2 (he33.tmp 50 _ rfl) (he33.tmp 51 _ rfl)) #[.pointer (some ⟨B, 0, none⟩), .slice (some ⟨b5, 0, none⟩) (6) (6)] rfl (fun _ _ => by kernel_rfl))
        clear he33 hm15
        have hd5b : 0 ≤ d5 ∧ d5 ≤ 4294967295 := by simp at hd5; omega
        obtain ⟨d5n, rfl⟩ := Int.eq_ofNat_of_zero_le hd5b.1
        have hd5c : d5n ≤ 9 := by simp at hd5; omega
        refine wh_build (i := 5) (op := ?op1d010110_5) (fuel := 3) ?hr1d010110_5 ?hi1d010110_5 he34 hm16 6 rfl ?hd1d010110_5 ?hw1d010110_5 42 1 #[(0, (.tmp 52))] ?ho1d010110_5 #[(0, .int .i64 (((d5n : Nat) : Int)))] (pmap1 (he34.tmp 52 _ rfl)) 3 ((cellsOf i64A [((d5n : Nat) : Int)]).toArray) (fun w => by kernel_rfl) (fun _ => ⟨rfl, rfl, trivial⟩) (fun a35 w17 b6 he35 hm17 => ?k1d010110_5)
        case hi1d010110_5 => rw [List.getElem?_toArray]; rfl
        case hw1d010110_5 => exact rfl
        case hr1d010110_5 => kernel_rfl
        case hd1d010110_5 | ho1d010110_5 => rfl
        clear he34 hm16
        have rw6_0 : Rw ((cellsOf i64A [((d5n : Nat) : Int)]).toArray) 1 1 1 (cellsOf i64A ([((d5n : Nat) : Int)])) := Rw.lits i64A.sz [((d5n : Nat) : Int)] (by simp [maxLen])
        refine wh_append (k := nn3) (cap := cc3) (i := 6) (op := ?op1d010110_6) (fuel := 2) ?hr1d010110_6 ?hi1d010110_6 he35 hm17 84 rfl ?hd1d010110_6 ?hw1d010110_6 (.tmp 49) (.tmp 53) 42 ?ho1d010110_6 el3 (he35.tmp 49 _ rfl) rw3o ⟨b6, 0, none⟩ 1 1 (he35.tmp 53 _ rfl) (cellsOf i64A ([((d5n : Nat) : Int)])) (rw6_0.len) (fun j u hu => by rw [Addr.add_mid, Nat.zero_add, (hm17.bx 6 _ _ _ _ rfl).cell]; exact rw6_0.get j u hu) (cellsOf_one i64A.one _) (by simp only [maxLen]; omega) (by omega) (fun _ _ => ⟨rfl, rfl, trivial⟩) (fun a36 w18 b84_36 cap84_36 cur84_36 he36 hm18 rw84_36 => ?k1d010110_6)
        case hi1d010110_6 => rw [List.getElem?_toArray]; rfl
        case hw1d010110_6 => exact rfl
        case hr1d010110_6 => kernel_rfl
        case hd1d010110_6 | ho1d010110_6 => rfl
        clear he35 hm17
        replace rw84_36 := rw84_36.app
        refine tk (fuel := 1) (i := 7) ?_ he36 hm18 ⟨rfl, rfl, trivial⟩ (.pointer (some ⟨b3, 4, none⟩)) ?_ ?_ ?_ ?_ fun a37 he37 => ?_
        rotate_left
        rw [List.getElem?_toArray]; rfl
        exact ⟨by kernel_rfl, by kernel_rfl, by kernel_rfl⟩
        exact ⟨fun _ _ _ _ h => h, rfl, rfl⟩
        exact fun wS hmS => rn_field _ _ _ rfl _ (.pointer (some ⟨b3, 4, none⟩)) (he36.tmp 3 _ rfl) (by kernel_rfl)
        clear he36
        refine wh_store (i := 8) (op := ?op1d010110_8) (fuel := 0) ?hr1d010110_8 ?hi1d010110_8 he37 hm18 3 rfl ?hd1d010110_8 ?hw1d010110_8 42 (.tmp 55) (.tmp 54) ?ho1d010110_8 (4) (he37.tmp 55 _ rfl) _ (he37.tmp 54 _ rfl) 1 one42.size rfl (by kernel_rfl) (by simp) (#[.slice d1.1 d1.2.1 d1.2.2.1, .string (z0), .slice d2.1 d2.2.1 d2.2.2.1, .slice (some ⟨bb2, 0, none⟩) (nn2) (cc2), .slice (some ⟨b84_36, 0, none⟩) (nn3 + 1) (cap84_36)]) (by kernel_rfl) ⟨rfl, rfl, trivial⟩ (fun w19 hm19 => ?k1d010110_8)
        case hi1d010110_8 => rw [List.getElem?_toArray]; rfl
        case hw1d010110_8 => exact rfl
        case hr1d010110_8 => kernel_rfl
        case hd1d010110_8 | ho1d010110_8 => rfl
        clear hm18
        refine wpAnyH_done (by kernel_rfl) ?_ _
        refine in_normal ?_
        refine then_normal ?_
        refine wp_region_lit ?_
        refine wl_val he37 rfl rfl (.int .i64 (((kk3 : Nat) : Int))) (rn_move _ (Or.inl rfl) _ (he37.tmp 7 _ rfl)) (fun a38 he38 => ?_)
        clear he37
        refine wl_val he38 rfl rfl (.int .i64 (((kk3 - 1 : Nat) : Int))) (rn_bin _ _ _ _ _ rfl .i64 _ _ (he38.tmp 46 _ rfl) rfl (.int .i64 (IntKind.wrap .i64 (((kk3 : Nat) : Int) - 1))) _ rfl (subN (i := kk3) (c := 1) .i64 (by omega) (by rw [IntKind.wrap_i64]; omega))) (fun a39 he39 => ?_)
        clear he38
        refine wl_val he39 rfl rfl (.int .i64 (((kk3 - 1 : Nat) : Int))) (rn_move _ (Or.inr rfl) _ (he39.tmp 47 _ rfl)) (fun a40 he40 => ?_)
        clear he39
        refine wpList_nil ?_
        exact ⟨1 * (kk3 - 1), by omega, Or.inr ⟨kk3 - 1, (oo3) ++ ([((d5n : Nat) : Int)]), nn3 + 1, b84_36, cap84_36, cur84_36, qq3 + 1, rfl, ⟨by simp [hn3], by omega, rw84_36, by omega⟩, he40.sub _ ⟨rfl, rfl, rfl, rfl, rfl, rfl, rfl, rfl, rfl, rfl, rfl, rfl, rfl, rfl, rfl, rfl, rfl, rfl, rfl, rfl, rfl, rfl, rfl, rfl, rfl, trivial⟩, hm19.sub _ ⟨rfl, rfl, rfl, rfl, rfl, rfl, trivial⟩⟩⟩
       ·
        refine st_build he31 hm14 5 rfl rfl rfl _ _ _ rfl #[(0, .int .i64 (0)), (1, .int .i64 (1)), (2, .int .i64 (2)), (3, .int .i64 (3)), (4, .int .i64 (7)), (5, .int .i64 (9))] (by kernel_rfl) 3 (#[.int .i64 (0), .int .i64 (1), .int .i64 (2), .int .i64 (3), .int .i64 (7), .int .i64 (9)]) (fun w => by kernel_rfl) (fun _ => ⟨rfl, rfl, trivial⟩) (fun a32 w15 b5 he32 hm15 => ?_)
        clear he31 hm14
        refine wpAnyH_ready (fuel := 5) (rs := [1, 4]) ?hr1u010111_2 (by simp) (AllReadyH.cons (o := ?o1u010111_2_0) ?hi1u010111_2_0 ?st1u010111_2_0 (AllReadyH.cons (o := ?o1u010111_2_1) ?hi1u010111_2_1 ?st1u010111_2_1 AllReadyH.nil))
        case hr1u010111_2 => kernel_rfl
        case hi1u010111_2_0 => rw [List.getElem?_toArray]; rfl
        case hi1u010111_2_1 => rw [List.getElem?_toArray]; rfl
        ·
         refine st_val he32 hm15 ⟨rfl, rfl, trivial⟩ rfl rfl (.slice (some ⟨bb3, 0, none⟩) (nn3) (cc3)) (rn_load1 hm15 3 rfl _ _ rfl (4) (he32.tmp 48 _ rfl) one42 _ rfl) (fun a33 he33 => ?_)
         clear he32
         refine wh_callD (i := 4) (op := ?op1d0101110_4) (fuel := 4) ?hr1d0101110_4 ?hi1d0101110_4 he33 hm15 1 rfl ?hd1d0101110_4 ?hw1d0101110_4 _ #[.pointer (some ⟨B, 0, none⟩), .slice (some ⟨b5, 0, none⟩) (6) (6)] ?en1d0101110_4 (d_one (h.kb hm15.keep (hm15.bx 1 _ _ _ _ rfl)) (by omega) b5 [0, 1, 2, 3, 7, 9] _ (hm15.bx 5 _ _ _ _ rfl) rfl (hm15.apart 5 1 _ _ rfl rfl (by decide) rfl) (by decide) (by decide) _ rfl) (fun _ => ⟨rfl, rfl, trivial⟩) (fun d5 a34 w16 hd5 he34 hm16 => ?k1d0101110_4)
         case hi1d0101110_4 => rw [List.getElem?_toArray]; rfl
         case hw1d0101110_4 => exact rfl
         case hr1d0101110_4 => kernel_rfl
         case hd1d0101110_4 => rfl
         case en1d0101110_4 => exact (enter_call _ _ _ rfl 28 #[] #[] rfl #[.pointer (some ⟨B, 0, none⟩), .slice (some ⟨b5, 0, none⟩) (6) (6)] (map2 (he33.tmp 50 _ rfl) (he33.tmp 51 _ rfl)) #[.pointer (some ⟨B, 0, none⟩), .slice (some ⟨b5, 0, none⟩) (6) (6)] rfl (fun _ _ => by kernel_rfl))
         clear he33 hm15
         have hd5b : 0 ≤ d5 ∧ d5 ≤ 4294967295 := by simp at hd5; omega
         obtain ⟨d5n, rfl⟩ := Int.eq_ofNat_of_zero_le hd5b.1
         have hd5c : d5n ≤ 9 := by simp at hd5; omega
         refine wh_build (i := 5) (op := ?op1d0101110_5) (fuel := 3) ?hr1d0101110_5 ?hi1d0101110_5 he34 hm16 6 rfl ?hd1d0101110_5 ?hw1d0101110_5 42 1 #[(0, (.tmp 52))] ?ho1d0101110_5 #[(0, .int .i64 (((d5n : Nat) : Int)))] (pmap1 (he34.tmp 52 _ rfl)) 3 ((cellsOf i64A [((d5n : Nat) : Int)]).toArray) (fun w => by kernel_rfl) (fun _ => ⟨rfl, rfl, trivial⟩) (fun a35 w17 b6 he35 hm17 => ?k1d0101110_5)
         case hi1d0101110_5 => rw [List.getElem?_toArray]; rfl
         case hw1d0101110_5 => exact rfl
         case hr1d0101110_5 => kernel_rfl
         case hd1d0101110_5 | ho1d0101110_5 => rfl
         clear he34 hm16
         have rw6_0 : Rw ((cellsOf i64A [((d5n : Nat) : Int)]).toArray) 1 1 1 (cellsOf i64A ([((d5n : Nat) : Int)])) := Rw.lits i64A.sz [((d5n : Nat) : Int)] (by simp [maxLen])
         refine wh_append (k := nn3) (cap := cc3) (i := 6) (op := ?op1d0101110_6) (fuel := 2) ?hr1d0101110_6 ?hi1d0101110_6 he35 hm17 84 rfl ?hd1d0101110_6 ?hw1d0101110_6 (.tmp 49) (.tmp 53) 42 ?ho1d0101110_6 el3 (he35.tmp 49 _ rfl) rw3o ⟨b6, 0, none⟩ 1 1 (he35.tmp 53 _ rfl) (cellsOf i64A ([((d5n : Nat) : Int)])) (rw6_0.len) (fun j u hu => by rw [Addr.add_mid, Nat.zero_add, (hm17.bx 6 _ _ _ _ rfl).cell]; exact rw6_0.get j u hu) (cellsOf_one i64A.one _) (by simp only [maxLen]; omega) (by omega) (fun _ _ => ⟨rfl, rfl, trivial⟩) (fun a36 w18 b84_36 cap84_36 cur84_36 he36 hm18 rw84_36 => ?k1d0101110_6)
         case hi1d0101110_6 => rw [List.getElem?_toArray]; rfl
         case hw1d0101110_6 => exact rfl
         case hr1d0101110_6 => kernel_rfl
         case hd1d0101110_6 | ho1d0101110_6 => rfl
         clear he35 hm17
         replace rw84_36 := rw84_36.app
         refine tk (fuel := 1) (i := 7) ?_ he36 hm18 ⟨rfl, rfl, trivial⟩ (.pointer (some ⟨b3, 4, none⟩)) ?_ ?_ ?_ ?_ fun a37 he37 => ?_
         rotate_left
         rw [List.getElem?_toArray]; rfl
         exact ⟨by kernel_rfl, by kernel_rfl, by kernel_rfl⟩
         exact ⟨fun _ _ _ _ h => h, rfl, rfl⟩
         exact fun wS hmS => rn_field _ _ _ rfl _ (.pointer (some ⟨b3, 4, none⟩)) (he36.tmp 3 _ rfl) (by kernel_rfl)
         clear he36
         refine wh_store (i := 8) (op := ?op1d0101110_8) (fuel := 0) ?hr1d0101110_8 ?hi1d0101110_8 he37 hm18 3 rfl ?hd1d0101110_8 ?hw1d0101110_8 42 (.tmp 55) (.tmp 54) ?ho1d0101110_8 (4) (he37.tmp 55 _ rfl) _ (he37.tmp 54 _ rfl) 1 one42.size rfl (by kernel_rfl) (by simp) (#[.slice d1.1 d1.2.1 d1.2.2.1, .string (z0), .slice d2.1 d2.2.1 d2.2.2.1, .slice (some ⟨bb2, 0, none⟩) (nn2) (cc2), .slice (some ⟨b84_36, 0, none⟩) (nn3 + 1) (cap84_36)]) (by kernel_rfl) ⟨rfl, rfl, trivial⟩ (fun w19 hm19 => ?k1d0101110_8)
         case hi1d0101110_8 => rw [List.getElem?_toArray]; rfl
         case hw1d0101110_8 => exact rfl
         case hr1d0101110_8 => kernel_rfl
         case hd1d0101110_8 | ho1d0101110_8 => rfl
         clear hm18
         refine wpAnyH_done (by kernel_rfl) ?_ _
         refine in_normal ?_
         refine then_normal ?_
         refine wp_region_lit ?_
         refine wl_val he37 rfl rfl (.int .i64 (((kk3 : Nat) : Int))) (rn_move _ (Or.inl rfl) _ (he37.tmp 7 _ rfl)) (fun a38 he38 => ?_)
         clear he37
         refine wl_val he38 rfl rfl (.int .i64 (((kk3 - 1 : Nat) : Int))) (rn_bin _ _ _ _ _ rfl .i64 _ _ (he38.tmp 46 _ rfl) rfl (.int .i64 (IntKind.wrap .i64 (((kk3 : Nat) : Int) - 1))) _ rfl (subN (i := kk3) (c := 1) .i64 (by omega) (by rw [IntKind.wrap_i64]; omega))) (fun a39 he39 => ?_)
         clear he38
         refine wl_val he39 rfl rfl (.int .i64 (((kk3 - 1 : Nat) : Int))) (rn_move _ (Or.inr rfl) _ (he39.tmp 47 _ rfl)) (fun a40 he40 => ?_)
         clear he39
         refine wpList_nil ?_
         exact ⟨1 * (kk3 - 1), by omega, Or.inr ⟨kk3 - 1, (oo3) ++ ([((d5n : Nat) : Int)]), nn3 + 1, b84_36, cap84_36, cur84_36, qq3 + 1, rfl, ⟨by simp [hn3], by omega, rw84_36, by omega⟩, he40.sub _ ⟨rfl, rfl, rfl, rfl, rfl, rfl, rfl, rfl, rfl, rfl, rfl, rfl, rfl, rfl, rfl, rfl, rfl, rfl, rfl, rfl, rfl, rfl, rfl, rfl, rfl, trivial⟩, hm19.sub _ ⟨rfl, rfl, rfl, rfl, rfl, rfl, trivial⟩⟩⟩
        ·
         refine st_callD he32 hm15 1 rfl (fun _ => ⟨rfl, rfl, trivial⟩) rfl rfl _ #[.pointer (some ⟨B, 0, none⟩), .slice (some ⟨b5, 0, none⟩) (6) (6)] (enter_call _ _ _ rfl 28 #[] #[] rfl #[.pointer (some ⟨B, 0, none⟩), .slice (some ⟨b5, 0, none⟩) (6) (6)] (map2 (he32.tmp 50 _ rfl) (he32.tmp 51 _ rfl)) #[.pointer (some ⟨B, 0, none⟩), .slice (some ⟨b5, 0, none⟩) (6) (6)] rfl (fun _ _ => by kernel_rfl)) (d_one (h.kb hm15.keep (hm15.bx 1 _ _ _ _ rfl)) (by omega) b5 [0, 1, 2, 3, 7, 9] _ (hm15.bx 5 _ _ _ _ rfl) rfl (hm15.apart 5 1 _ _ rfl rfl (by decide) rfl) (by decide) (by decide) _ rfl) (fun d5 a33 w16 hd5 he33 hm16 => ?_)
         clear he32 hm15
         have hd5b : 0 ≤ d5 ∧ d5 ≤ 4294967295 := by simp at hd5; omega
         obtain ⟨d5n, rfl⟩ := Int.eq_ofNat_of_zero_le hd5b.1
         have hd5c : d5n ≤ 9 := by simp at hd5; omega
         refine wpAnyH_ready (fuel := 4) (rs := [1, 5]) ?hr1u0101111_3 (by simp) (AllReadyH.cons (o := ?o1u0101111_3_0) ?hi1u0101111_3_0 ?st1u0101111_3_0 (AllReadyH.cons (o := ?o1u0101111_3_1) ?hi1u0101111_3_1 ?st1u0101111_3_1 AllReadyH.nil))
         case hr1u0101111_3 => kernel_rfl
         case hi1u0101111_3_0 => rw [List.getElem?_toArray]; rfl
         case hi1u0101111_3_1 => rw [List.getElem?_toArray]; rfl
         ·
          refine st_val he33 hm16 ⟨rfl, rfl, trivial⟩ rfl rfl (.slice (some ⟨bb3, 0, none⟩) (nn3) (cc3)) (rn_load1 hm16 3 rfl _ _ rfl (4) (he33.tmp 48 _ rfl) one42 _ rfl) (fun a34 he34 => ?_)
          clear he33
          refine wh_build (i := 5) (op := ?op1d01011110_5) (fuel := 3) ?hr1d01011110_5 ?hi1d01011110_5 he34 hm16 6 rfl ?hd1d01011110_5 ?hw1d01011110_5 42 1 #[(0, (.tmp 52))] ?ho1d01011110_5 #[(0, .int .i64 (((d5n : Nat) : Int)))] (pmap1 (he34.tmp 52 _ rfl)) 3 ((cellsOf i64A [((d5n : Nat) : Int)]).toArray) (fun w => by kernel_rfl) (fun _ => ⟨rfl, rfl, trivial⟩) (fun a35 w17 b6 he35 hm17 => ?k1d01011110_5)
          case hi1d01011110_5 => rw [List.getElem?_toArray]; rfl
          case hw1d01011110_5 => exact rfl
          case hr1d01011110_5 => kernel_rfl
          case hd1d01011110_5 | ho1d01011110_5 => rfl
          clear he34 hm16
          have rw6_0 : Rw ((cellsOf i64A [((d5n : Nat) : Int)]).toArray) 1 1 1 (cellsOf i64A ([((d5n : Nat) : Int)])) := Rw.lits i64A.sz [((d5n : Nat) : Int)] (by simp [maxLen])
          refine wh_append (k := nn3) (cap := cc3) (i := 6) (op := ?op1d01011110_6) (fuel := 2) ?hr1d01011110_6 ?hi1d01011110_6 he35 hm17 84 rfl ?hd1d01011110_6 ?hw1d01011110_6 (.tmp 49) (.tmp 53) 42 ?ho1d01011110_6 el3 (he35.tmp 49 _ rfl) rw3o ⟨b6, 0, none⟩ 1 1 (he35.tmp 53 _ rfl) (cellsOf i64A ([((d5n : Nat) : Int)])) (rw6_0.len) (fun j u hu => by rw [Addr.add_mid, Nat.zero_add, (hm17.bx 6 _ _ _ _ rfl).cell]; exact rw6_0.get j u hu) (cellsOf_one i64A.one _) (by simp only [maxLen]; omega) (by omega) (fun _ _ => ⟨rfl, rfl, trivial⟩) (fun a36 w18 b84_36 cap84_36 cur84_36 he36 hm18 rw84_36 => ?k1d01011110_6)
          case hi1d01011110_6 => rw [List.getElem?_toArray]; rfl
          case hw1d01011110_6 => exact rfl
          case hr1d01011110_6 => kernel_rfl
          case hd1d01011110_6 | ho1d01011110_6 => rfl
          clear he35 hm17
          replace rw84_36 := rw84_36.app
          refine tk (fuel := 1) (i := 7) ?_ he36 hm18 ⟨rfl, rfl, trivial⟩ (.pointer (some ⟨b3, 4, none⟩)) ?_ ?_ ?_ ?_ fun a37 he37 => ?_
          rotate_left
          rw [List.getElem?_toArray]; rfl
          exact ⟨by kernel_rfl, by kernel_rfl, by kernel_rfl⟩
          exact ⟨fun _ _ _ _ h => h, rfl, rfl⟩
          exact fun wS hmS => rn_field _ _ _ rfl _ (.pointer (some ⟨b3, 4, none⟩)) (he36.tmp 3 _ rfl) (by kernel_rfl)
          clear he36
          refine wh_store (i := 8) (op := ?op1d01011110_8) (fuel := 0) ?hr1d01011110_8 ?hi1d01011110_8 he37 hm18 3 rfl ?hd1d01011110_8 ?hw1d01011110_8 42 (.tmp 55) (.tmp 54) ?ho1d01011110_8 (4) (he37.tmp 55 _ rfl) _ (he37.tmp 54 _ rfl) 1 one42.size rfl (by kernel_rfl) (by simp) (#[.slice d1.1 d1.2.1 d1.2.2.1, .string (z0), .slice d2.1 d2.2.1 d2.2.2.1, .slice (some ⟨bb2, 0, none⟩) (nn2) (cc2), .slice (some ⟨b84_36, 0, none⟩) (nn3 + 1) (cap84_36)]) (by kernel_rfl) ⟨rfl, rfl, trivial⟩ (fun w19 hm19 => ?k1d01011110_8)
          case hi1d01011110_8 => rw [List.getElem?_toArray]; rfl
          case hw1d01011110_8 => exact rfl
          case hr1d01011110_8 => kernel_rfl
          case hd1d01011110_8 | ho1d01011110_8 => rfl
          clear hm18
          refine wpAnyH_done (by kernel_rfl) ?_ _
          refine in_normal ?_
          refine then_normal ?_
          refine wp_region_lit ?_
          refine wl_val he37 rfl rfl (.int .i64 (((kk3 : Nat) : Int))) (rn_move _ (Or.inl rfl) _ (he37.tmp 7 _ rfl)) (fun a38 he38 => ?_)
          clear he37
          refine wl_val he38 rfl rfl (.int .i64 (((kk3 - 1 : Nat) : Int))) (rn_bin _ _ _ _ _ rfl .i64 _ _ (he38.tmp 46 _ rfl) rfl (.int .i64 (IntKind.wrap .i64 (((kk3 : Nat) : Int) - 1))) _ rfl (subN (i := kk3) (c := 1) .i64 (by omega) (by rw [IntKind.wrap_i64]; omega))) (fun a39 he39 => ?_)
          clear he38
          refine wl_val he39 rfl rfl (.int .i64 (((kk3 - 1 : Nat) : Int))) (rn_move _ (Or.inr rfl) _ (he39.tmp 47 _ rfl)) (fun a40 he40 => ?_)
          clear he39
          refine wpList_nil ?_
          exact ⟨1 * (kk3 - 1), by omega, Or.inr ⟨kk3 - 1, (oo3) ++ ([((d5n : Nat) : Int)]), nn3 + 1, b84_36, cap84_36, cur84_36, qq3 + 1, rfl, ⟨by simp [hn3], by omega, rw84_36, by omega⟩, he40.sub _ ⟨rfl, rfl, rfl, rfl, rfl, rfl, rfl, rfl, rfl, rfl, rfl, rfl, rfl, rfl, rfl, rfl, rfl, rfl, rfl, rfl, rfl, rfl, rfl, rfl, rfl, trivial⟩, hm19.sub _ ⟨rfl, rfl, rfl, rfl, rfl, rfl, trivial⟩⟩⟩
         ·
          refine st_build he33 hm16 6 rfl rfl rfl _ _ _ rfl #[(0, .int .i64 (((d5n : Nat) : Int)))] (pmap1 (he33.tmp 52 _ rfl)) 3 ((cellsOf i64A [((d5n : Nat) : Int)]).toArray) (fun w => by kernel_rfl) (fun _ => ⟨rfl, rfl, trivial⟩) (fun a34 w17 b6 he34 hm17 => ?_)
          clear he33 hm16
          have rw6_0 : Rw ((cellsOf i64A [((d5n : Nat) : Int)]).toArray) 1 1 1 (cellsOf i64A ([((d5n : Nat) : Int)])) := Rw.lits i64A.sz [((d5n : Nat) : Int)] (by simp [maxLen])
          refine wpAnyH_ready (fuel := 3) (rs := [1]) ?hr1u01011111_4 (by simp) (AllReadyH.cons (o := ?o1u01011111_4_0) ?hi1u01011111_4_0 ?st1u01011111_4_0 AllReadyH.nil)
          case hr1u01011111_4 => kernel_rfl
          case hi1u01011111_4_0 => rw [List.getElem?_toArray]; rfl
          refine st_val he34 hm17 ⟨rfl, rfl, trivial⟩ rfl rfl (.slice (some ⟨bb3, 0, none⟩) (nn3) (cc3)) (rn_load1 hm17 3 rfl _ _ rfl (4) (he34.tmp 48 _ rfl) one42 _ rfl) (fun a35 he35 => ?_)
          clear he34
          refine wh_append (k := nn3) (cap := cc3) (i := 6) (op := ?op1d01011111_6) (fuel := 2) ?hr1d01011111_6 ?hi1d01011111_6 he35 hm17 84 rfl ?hd1d01011111_6 ?hw1d01011111_6 (.tmp 49) (.tmp 53) 42 ?ho1d01011111_6 el3 (he35.tmp 49 _ rfl) rw3o ⟨b6, 0, none⟩ 1 1 (he35.tmp 53 _ rfl) (cellsOf i64A ([((d5n : Nat) : Int)])) (rw6_0.len) (fun j u hu => by rw [Addr.add_mid, Nat.zero_add, (hm17.bx 6 _ _ _ _ rfl).cell]; exact rw6_0.get j u hu) (cellsOf_one i64A.one _) (by simp only [maxLen]; omega) (by omega) (fun _ _ => ⟨rfl, rfl, trivial⟩) (fun a36 w18 b84_36 cap84_36 cur84_36 he36 hm18 rw84_36 => ?k1d01011111_6)
          case hi1d01011111_6 => rw [List.getElem?_toArray]; rfl
          case hw1d01011111_6 => exact rfl
          case hr1d01011111_6 => kernel_rfl
          case hd1d01011111_6 | ho1d01011111_6 => rfl
          clear he35 hm17
          replace rw84_36 := rw84_36.app
          refine tk (fuel := 1) (i := 7) ?_ he36 hm18 ⟨rfl, rfl, trivial⟩ (.pointer (some ⟨b3, 4, none⟩)) ?_ ?_ ?_ ?_ fun a37 he37 => ?_
          rotate_left
          rw [List.getElem?_toArray]; rfl
          exact ⟨by kernel_rfl, by kernel_rfl, by kernel_rfl⟩
          exact ⟨fun _ _ _ _ h => h, rfl, rfl⟩
          exact fun wS hmS => rn_field _ _ _ rfl _ (.pointer (some ⟨b3, 4, none⟩)) (he36.tmp 3 _ rfl) (by kernel_rfl)
          clear he36
          refine wh_store (i := 8) (op := ?op1d01011111_8) (fuel := 0) ?hr1d01011111_8 ?hi1d01011111_8 he37 hm18 3 rfl ?hd1d01011111_8 ?hw1d01011111_8 42 (.tmp 55) (.tmp 54) ?ho1d01011111_8 (4) (he37.tmp 55 _ rfl) _ (he37.tmp 54 _ rfl) 1 one42.size rfl (by kernel_rfl) (by simp) (#[.slice d1.1 d1.2.1 d1.2.2.1, .string (z0), .slice d2.1 d2.2.1 d2.2.2.1, .slice (some ⟨bb2, 0, none⟩) (nn2) (cc2), .slice (some ⟨b84_36, 0, none⟩) (nn3 + 1) (cap84_36)]) (by kernel_rfl) ⟨rfl, rfl, trivial⟩ (fun w19 hm19 => ?k1d01011111_8)
          case hi1d01011111_8 => rw [List.getElem?_toArray]; rfl
          case hw1d01011111_8 => exact rfl
          case hr1d01011111_8 => kernel_rfl
          case hd1d01011111_8 | ho1d01011111_8 => rfl
          clear hm18
          refine wpAnyH_done (by kernel_rfl) ?_ _
          refine in_normal ?_
          refine then_normal ?_
          refine wp_region_lit ?_
          refine wl_val he37 rfl rfl (.int .i64 (((kk3 : Nat) : Int))) (rn_move _ (Or.inl rfl) _ (he37.tmp 7 _ rfl)) (fun a38 he38 => ?_)
          clear he37
          refine wl_val he38 rfl rfl (.int .i64 (((kk3 - 1 : Nat) : Int))) (rn_bin _ _ _ _ _ rfl .i64 _ _ (he38.tmp 46 _ rfl) rfl (.int .i64 (IntKind.wrap .i64 (((kk3 : Nat) : Int) - 1))) _ rfl (subN (i := kk3) (c := 1) .i64 (by omega) (by rw [IntKind.wrap_i64]; omega))) (fun a39 he39 => ?_)
          clear he38
          refine wl_val he39 rfl rfl (.int .i64 (((kk3 - 1 : Nat) : Int))) (rn_move _ (Or.inr rfl) _ (he39.tmp 47 _ rfl)) (fun a40 he40 => ?_)
          clear he39
          refine wpList_nil ?_
          exact ⟨1 * (kk3 - 1), by omega, Or.inr ⟨kk3 - 1, (oo3) ++ ([((d5n : Nat) : Int)]), nn3 + 1, b84_36, cap84_36, cur84_36, qq3 + 1, rfl, ⟨by simp [hn3], by omega, rw84_36, by omega⟩, he40.sub _ ⟨rfl, rfl, rfl, rfl, rfl, rfl, rfl, rfl, rfl, rfl, rfl, rfl, rfl, rfl, rfl, rfl, rfl, rfl, rfl, rfl, rfl, rfl, rfl, rfl, rfl, trivial⟩, hm19.sub _ ⟨rfl, rfl, rfl, rfl, rfl, rfl, trivial⟩⟩⟩
    ·
     have hd2p := of_decide_eq_true hd2
     refine wl_val he22 rfl rfl (.bool true) (rn_bin _ _ _ _ _ rfl .i64 _ _ (he22.tmp 31 _ rfl) rfl (.bool (decide (((kk2 : Nat) : Int) > 0))) _ rfl (congrArg Value.bool (hd2))) (fun a23 he23 => ?_)
     clear he22
     refine wl_end ?_
     refine wp_condT (he := he23) rfl ?_
     refine wp_skip ?_
     refine then_normal ?_
     refine wp_seq ?_
     refine wp_block ?_
     refine wh_begin (by kernel_rfl) hm11 [(2, ⟨true, b2, 44, #[.slice none 0 0, .string (⟨#[]⟩), .slice none 0 0, .slice none 0 0, .slice none 0 0]⟩), (4, ⟨true, ob, 5, oa⟩)] ⟨rfl, rfl, trivial⟩ (fun w12 hm12 => ?_)
     clear hm11
     refine tk (fuel := 7) (i := 0) ?_ he23 hm12 ⟨rfl, rfl, trivial⟩ (.pointer (some ⟨b3, 3, none⟩)) ?_ ?_ ?_ ?_ fun a24 he24 => ?_
     rotate_left
     rw [List.getElem?_toArray]; rfl
     exact ⟨by kernel_rfl, by kernel_rfl, by kernel_rfl⟩
     exact ⟨fun _ _ _ _ h => h, rfl, rfl⟩
     exact fun wS hmS => rn_field _ _ _ rfl _ (.pointer (some ⟨b3, 3, none⟩)) (he23.tmp 3 _ rfl) (by kernel_rfl)
     clear he23
     refine tk (fuel := 6) (i := 2) ?_ he24 hm12 ⟨rfl, rfl, trivial⟩ (.pointer (some ⟨B, 0, none⟩)) ?_ ?_ ?_ ?_ fun a25 he25 => ?_
     rotate_left
     rw [List.getElem?_toArray]; rfl
     exact ⟨by kernel_rfl, by kernel_rfl, by kernel_rfl⟩
     exact ⟨fun _ _ _ _ h => h, rfl, rfl⟩
     exact fun wS hmS => rn_move _ (Or.inl rfl) _ (he24.tmp 0 _ rfl)
     clear he24
     refine wpAnyH_ready (fuel := 5) (rs := [1, 3]) ?hr1u011_1 (by simp) (AllReadyH.cons (o := ?o1u011_1_0) ?hi1u011_1_0 ?st1u011_1_0 (AllReadyH.cons (o := ?o1u011_1_1) ?hi1u011_1_1 ?st1u011_1_1 AllReadyH.nil))
     case hr1u011_1 => kernel_rfl
     case hi1u011_1_0 => rw [List.getElem?_toArray]; rfl
     case hi1u011_1_1 => rw [List.getElem?_toArray]; rfl
     ·
      refine st_val he25 hm12 ⟨rfl, rfl, trivial⟩ rfl rfl (.slice (some ⟨bb2, 0, none⟩) (nn2) (cc2)) (rn_load1 hm12 3 rfl _ _ rfl (3) (he25.tmp 35 _ rfl) one42 _ rfl) (fun a26 he26 => ?_)
      clear he25
      refine wh_callD (i := 3) (op := ?op1d0110_3) (fuel := 4) ?hr1d0110_3 ?hi1d0110_3 he26 hm12 1 rfl ?hd1d0110_3 ?hw1d0110_3 _ #[.pointer (some ⟨B, 0, none⟩)] ?en1d0110_3 (d_number (h.kb hm12.keep (hm12.bx 1 _ _ _ _ rfl)) (by omega)) (fun _ => ⟨rfl, rfl, trivial⟩) (fun d4 a27 w13 hd4 he27 hm13 => ?k1d0110_3)
      case hi1d0110_3 => rw [List.getElem?_toArray]; rfl
      case hw1d0110_3 => exact rfl
      case hr1d0110_3 => kernel_rfl
      case hd1d0110_3 => rfl
      case en1d0110_3 => exact (enter_call _ _ _ rfl 32 #[] #[] rfl #[.pointer (some ⟨B, 0, none⟩)] (map1 (he26.tmp 37 _ rfl)) #[.pointer (some ⟨B, 0, none⟩)] rfl (fun _ _ => by kernel_rfl))
      clear he26 hm12
      have hd4b : d4.2 ≤ qq2 + 3 := hd4
      refine wh_build (i := 4) (op := ?op1d0110_4) (fuel := 3) ?hr1d0110_4 ?hi1d0110_4 he27 hm13 5 rfl ?hd1d0110_4 ?hw1d0110_4 42 1 #[(0, (.tmp 38))] ?ho1d0110_4 #[(0, .int .i64 (((d4.1 : Nat) : Int)))] (pmap1 (he27.tmp 38 _ rfl)) 3 ((cellsOf i64A [((d4.1 : Nat) : Int)]).toArray) (fun w => by kernel_rfl) (fun _ => ⟨rfl, rfl, trivial⟩) (fun a28 w14 b5 he28 hm14 => ?k1d0110_4)
      case hi1d0110_4 => rw [List.getElem?_toArray]; rfl
      case hw1d0110_4 => exact rfl
      case hr1d0110_4 => kernel_rfl
      case hd1d0110_4 | ho1d0110_4 => rfl
      clear he27 hm13
      have rw5_0 : Rw ((cellsOf i64A [((d4.1 : Nat) : Int)]).toArray) 1 1 1 (cellsOf i64A ([((d4.1 : Nat) : Int)])) := Rw.lits i64A.sz [((d4.1 : Nat) : Int)] (by simp [maxLen])
      refine wh_append (k := nn2) (cap := cc2) (i := 5) (op := ?op1d0110_5) (fuel := 2) ?hr1d0110_5 ?hi1d0110_5 he28 hm14 83 rfl ?hd1d0110_5 ?hw1d0110_5 (.tmp 36) (.tmp 39) 42 ?ho1d0110_5 el3 (he28.tmp 36 _ rfl) rw2o ⟨b5, 0, none⟩ 1 1 (he28.tmp 39 _ rfl) (cellsOf i64A ([((d4.1 : Nat) : Int)])) (rw5_0.len) (fun j u hu => by rw [Addr.add_mid, Nat.zero_add, (hm14.bx 5 _ _ _ _ rfl).cell]; exact rw5_0.get j u hu) (cellsOf_one i64A.one _) (by simp only [maxLen]; omega) (by omega) (fun _ _ => ⟨rfl, rfl, trivial⟩) (fun a29 w15 b83_29 cap83_29 cur83_29 he29 hm15 rw83_29 => ?k1d0110_5)
      case hi1d0110_5 => rw [List.getElem?_toArray]; rfl
      case hw1d0110_5 => exact rfl
      case hr1d0110_5 => kernel_rfl
      case hd1d0110_5 | ho1d0110_5 => rfl
      clear he28 hm14
      replace rw83_29 := rw83_29.app
      refine tk (fuel := 1) (i := 6) ?_ he29 hm15 ⟨rfl, rfl, trivial⟩ (.pointer (some ⟨b3, 3, none⟩)) ?_ ?_ ?_ ?_ fun a30 he30 => ?_
      rotate_left
      rw [List.getElem?_toArray]; rfl
      exact ⟨by kernel_rfl, by kernel_rfl, by kernel_rfl⟩
      exact ⟨fun _ _ _ _ h => h, rfl, rfl⟩
      exact fun wS hmS => rn_field _ _ _ rfl _ (.pointer (some ⟨b3, 3, none⟩)) (he29.tmp 3 _ rfl) (by kernel_rfl)
      clear he29
      refine wh_store (i := 7) (op := ?op1d0110_7) (fuel := 0) ?hr1d0110_7 ?hi1d0110_7 he30 hm15 3 rfl ?hd1d0110_7 ?hw1d0110_7 42 (.tmp 41) (.tmp 40) ?ho1d0110_7 (3) (he30.tmp 41 _ rfl) _ (he30.tmp 40 _ rfl) 1 one42.size rfl (by kernel_rfl) (by simp) (#[.slice d1.1 d1.2.1 d1.2.2.1, .string (z0), .slice d2.1 d2.2.1 d2.2.2.1, .slice (some ⟨b83_29, 0, none⟩) (nn2 + 1) (cap83_29), .slice none 0 0]) (by kernel_rfl) ⟨rfl, rfl, trivial⟩ (fun w16 hm16 => ?k1d0110_7)
      case hi1d0110_7 => rw [List.getElem?_toArray]; rfl
      case hw1d0110_7 => exact rfl
      case hr1d0110_7 => kernel_rfl
      case hd1d0110_7 | ho1d0110_7 => rfl
      clear hm15
      refine wpAnyH_done (by kernel_rfl) ?_ _
      refine in_normal ?_
      refine then_normal ?_
      refine wp_region_lit ?_
      refine wl_val he30 rfl rfl (.int .i64 (((kk2 : Nat) : Int))) (rn_move _ (Or.inl rfl) _ (he30.tmp 6 _ rfl)) (fun a31 he31 => ?_)
      clear he30
      refine wl_val he31 rfl rfl (.int .i64 (((kk2 - 1 : Nat) : Int))) (rn_bin _ _ _ _ _ rfl .i64 _ _ (he31.tmp 33 _ rfl) rfl (.int .i64 (IntKind.wrap .i64 (((kk2 : Nat) : Int) - 1))) _ rfl (subN (i := kk2) (c := 1) .i64 (by omega) (by rw [IntKind.wrap_i64]; omega))) (fun a32 he32 => ?_)
      clear he31
      refine wl_val he32 rfl rfl (.int .i64 (((kk2 - 1 : Nat) : Int))) (rn_move _ (Or.inr rfl) _ (he32.tmp 34 _ rfl)) (fun a33 he33 => ?_)
      clear he32
      refine wpList_nil ?_
      exact ⟨1 * (kk2 - 1), by omega, Or.inr ⟨kk2 - 1, (oo2) ++ ([((d4.1 : Nat) : Int)]), nn2 + 1, b83_29, cap83_29, cur83_29, d4.2, rfl, ⟨by simp [hn2], by omega, rw83_29, by omega⟩, he33.sub _ ⟨rfl, rfl, rfl, rfl, rfl, rfl, rfl, rfl, rfl, rfl, rfl, rfl, rfl, rfl, rfl, rfl, rfl, rfl, rfl, rfl, trivial⟩, hm16.sub _ ⟨rfl, rfl, rfl, rfl, rfl, trivial⟩⟩⟩
     ·
      refine st_callD he25 hm12 1 rfl (fun _ => ⟨rfl, rfl, trivial⟩) rfl rfl _ #[.pointer (some ⟨B, 0, none⟩)] (enter_call _ _ _ rfl 32 #[] #[] rfl #[.pointer (some ⟨B, 0, none⟩)] (map1 (he25.tmp 37 _ rfl)) #[.pointer (some ⟨B, 0, none⟩)] rfl (fun _ _ => by kernel_rfl)) (d_number (h.kb hm12.keep (hm12.bx 1 _ _ _ _ rfl)) (by omega)) (fun d4 a26 w13 hd4 he26 hm13 => ?_)
      clear he25 hm12
      have hd4b : d4.2 ≤ qq2 + 3 := hd4
      refine wpAnyH_ready (fuel := 4) (rs := [1, 4]) ?hr1u0111_2 (by simp) (AllReadyH.cons (o := ?o1u0111_2_0) ?hi1u0111_2_0 ?st1u0111_2_0 (AllReadyH.cons (o := ?o1u0111_2_1) ?hi1u0111_2_1 ?st1u0111_2_1 AllReadyH.nil))
      case hr1u0111_2 => kernel_rfl
      case hi1u0111_2_0 => rw [List.getElem?_toArray]; rfl
      case hi1u0111_2_1 => rw [List.getElem?_toArray]; rfl
      ·
       refine st_val he26 hm13 ⟨rfl, rfl, trivial⟩ rfl rfl (.slice (some ⟨bb2, 0, none⟩) (nn2) (cc2)) (rn_load1 hm13 3 rfl _ _ rfl (3) (he26.tmp 35 _ rfl) one42 _ rfl) (fun a27 he27 => ?_)
       clear he26
       refine wh_build (i := 4) (op := ?op1d01110_4) (fuel := 3) ?hr1d01110_4 ?hi1d01110_4 he27 hm13 5 rfl ?hd1d01110_4 ?hw1d01110_4 42 1 #[(0, (.tmp 38))] ?ho1d01110_4 #[(0, .int .i64 (((d4.1 : Nat) : Int)))] (pmap1 (he27.tmp 38 _ rfl)) 3 ((cellsOf i64A [((d4.1 : Nat) : Int)]).toArray) (fun w => by kernel_rfl) (fun _ => ⟨rfl, rfl, trivial⟩) (fun a28 w14 b5 he28 hm14 => ?k1d01110_4)
       case hi1d01110_4 => rw [List.getElem?_toArray]; rfl
       case hw1d01110_4 => exact rfl
       case hr1d01110_4 => kernel_rfl
       case hd1d01110_4 | ho1d01110_4 => rfl
       clear he27 hm13
       have rw5_0 : Rw ((cellsOf i64A [((d4.1 : Nat) : Int)]).toArray) 1 1 1 (cellsOf i64A ([((d4.1 : Nat) : Int)])) := Rw.lits i64A.sz [((d4.1 : Nat) : Int)] (by simp [maxLen])
       refine wh_append (k := nn2) (cap := cc2) (i := 5) (op := ?op1d01110_5) (fuel := 2) ?hr1d01110_5 ?hi1d01110_5 he28 hm14 83 rfl ?hd1d01110_5 ?hw1d01110_5 (.tmp 36) (.tmp 39) 42 ?ho1d01110_5 el3 (he28.tmp 36 _ rfl) rw2o ⟨b5, 0, none⟩ 1 1 (he28.tmp 39 _ rfl) (cellsOf i64A ([((d4.1 : Nat) : Int)])) (rw5_0.len) (fun j u hu => by rw [Addr.add_mid, Nat.zero_add, (hm14.bx 5 _ _ _ _ rfl).cell]; exact rw5_0.get j u hu) (cellsOf_one i64A.one _) (by simp only [maxLen]; omega) (by omega) (fun _ _ => ⟨rfl, rfl, trivial⟩) (fun a29 w15 b83_29 cap83_29 cur83_29 he29 hm15 rw83_29 => ?k1d01110_5)
       case hi1d01110_5 => rw [List.getElem?_toArray]; rfl
       case hw1d01110_5 => exact rfl
       case hr1d01110_5 => kernel_rfl
       case hd1d01110_5 | ho1d01110_5 => rfl
       clear he28 hm14
       replace rw83_29 := rw83_29.app
       refine tk (fuel := 1) (i := 6) ?_ he29 hm15 ⟨rfl, rfl, trivial⟩ (.pointer (some ⟨b3, 3, none⟩)) ?_ ?_ ?_ ?_ fun a30 he30 => ?_
       rotate_left
       rw [List.getElem?_toArray]; rfl
       exact ⟨by kernel_rfl, by kernel_rfl, by kernel_rfl⟩
       exact ⟨fun _ _ _ _ h => h, rfl, rfl⟩
       exact fun wS hmS => rn_field _ _ _ rfl _ (.pointer (some ⟨b3, 3, none⟩)) (he29.tmp 3 _ rfl) (by kernel_rfl)
       clear he29
       refine wh_store (i := 7) (op := ?op1d01110_7) (fuel := 0) ?hr1d01110_7 ?hi1d01110_7 he30 hm15 3 rfl ?hd1d01110_7 ?hw1d01110_7 42 (.tmp 41) (.tmp 40) ?ho1d01110_7 (3) (he30.tmp 41 _ rfl) _ (he30.tmp 40 _ rfl) 1 one42.size rfl (by kernel_rfl) (by simp) (#[.slice d1.1 d1.2.1 d1.2.2.1, .string (z0), .slice d2.1 d2.2.1 d2.2.2.1, .slice (some ⟨b83_29, 0, none⟩) (nn2 + 1) (cap83_29), .slice none 0 0]) (by kernel_rfl) ⟨rfl, rfl, trivial⟩ (fun w16 hm16 => ?k1d01110_7)
       case hi1d01110_7 => rw [List.getElem?_toArray]; rfl
       case hw1d01110_7 => exact rfl
       case hr1d01110_7 => kernel_rfl
       case hd1d01110_7 | ho1d01110_7 => rfl
       clear hm15
       refine wpAnyH_done (by kernel_rfl) ?_ _
       refine in_normal ?_
       refine then_normal ?_
       refine wp_region_lit ?_
       refine wl_val he30 rfl rfl (.int .i64 (((kk2 : Nat) : Int))) (rn_move _ (Or.inl rfl) _ (he30.tmp 6 _ rfl)) (fun a31 he31 => ?_)
       clear he30
       refine wl_val he31 rfl rfl (.int .i64 (((kk2 - 1 : Nat) : Int))) (rn_bin _ _ _ _ _ rfl .i64 _ _ (he31.tmp 33 _ rfl) rfl (.int .i64 (IntKind.wrap .i64 (((kk2 : Nat) : Int) - 1))) _ rfl (subN (i := kk2) (c := 1) .i64 (by omega) (by rw [IntKind.wrap_i64]; omega))) (fun a32 he32 => ?_)
       clear he31
       refine wl_val he32 rfl rfl (.int .i64 (((kk2 - 1 : Nat) : Int))) (rn_move _ (Or.inr rfl) _ (he32.tmp 34 _ rfl)) (fun a33 he33 => ?_)
       clear he32
       refine wpList_nil ?_
       exact ⟨1 * (kk2 - 1), by omega, Or.inr ⟨kk2 - 1, (oo2) ++ ([((d4.1 : Nat) : Int)]), nn2 + 1, b83_29, cap83_29, cur83_29, d4.2, rfl, ⟨by simp [hn2], by omega, rw83_29, by omega⟩, he33.sub _ ⟨rfl, rfl, rfl, rfl, rfl, rfl, rfl, rfl, rfl, rfl, rfl, rfl, rfl, rfl, rfl, rfl, rfl, rfl, rfl, rfl, trivial⟩, hm16.sub _ ⟨rfl, rfl, rfl, rfl, rfl, trivial⟩⟩⟩
      ·
       refine st_build he26 hm13 5 rfl rfl rfl _ _ _ rfl #[(0, .int .i64 (((d4.1 : Nat) : Int)))] (pmap1 (he26.tmp 38 _ rfl)) 3 ((cellsOf i64A [((d4.1 : Nat) : Int)]).toArray) (fun w => by kernel_rfl) (fun _ => ⟨rfl, rfl, trivial⟩) (fun a27 w14 b5 he27 hm14 => ?_)
       clear he26 hm13
       have rw5_0 : Rw ((cellsOf i64A [((d4.1 : Nat) : Int)]).toArray) 1 1 1 (cellsOf i64A ([((d4.1 : Nat) : Int)])) := Rw.lits i64A.sz [((d4.1 : Nat) : Int)] (by simp [maxLen])
       refine wpAnyH_ready (fuel := 3) (rs := [1]) ?hr1u01111_3 (by simp) (AllReadyH.cons (o := ?o1u01111_3_0) ?hi1u01111_3_0 ?st1u01111_3_0 AllReadyH.nil)
       case hr1u01111_3 => kernel_rfl
       case hi1u01111_3_0 => rw [List.getElem?_toArray]; rfl
       refine st_val he27 hm14 ⟨rfl, rfl, trivial⟩ rfl rfl (.slice (some ⟨bb2, 0, none⟩) (nn2) (cc2)) (rn_load1 hm14 3 rfl _ _ rfl (3) (he27.tmp 35 _ rfl) one42 _ rfl) (fun a28 he28 => ?_)
       clear he27
       refine wh_append (k := nn2) (cap := cc2) (i := 5) (op := ?op1d01111_5) (fuel := 2) ?hr1d01111_5 ?hi1d01111_5 he28 hm14 83 rfl ?hd1d01111_5 ?hw1d01111_5 (.tmp 36) (.tmp 39) 42 ?ho1d01111_5 el3 (he28.tmp 36 _ rfl) rw2o ⟨b5, 0, none⟩ 1 1 (he28.tmp 39 _ rfl) (cellsOf i64A ([((d4.1 : Nat) : Int)])) (rw5_0.len) (fun j u hu => by rw [Addr.add_mid, Nat.zero_add, (hm14.bx 5 _ _ _ _ rfl).cell]; exact rw5_0.get j u hu) (cellsOf_one i64A.one _) (by simp only [maxLen]; omega) (by omega) (fun _ _ => ⟨rfl, rfl, trivial⟩) (fun a29 w15 b83_29 cap83_29 cur83_29 he29 hm15 rw83_29 => ?k1d01111_5)
       case hi1d01111_5 => rw [List.getElem?_toArray]; rfl
       case hw1d01111_5 => exact rfl
       case hr1d01111_5 => kernel_rfl
       case hd1d01111_5 | ho1d01111_5 => rfl
       clear he28 hm14
       replace rw83_29 := rw83_29.app
       refine tk (fuel := 1) (i := 6) ?_ he29 hm15 ⟨rfl, rfl, trivial⟩ (.pointer (some ⟨b3, 3, none⟩)) ?_ ?_ ?_ ?_ fun a30 he30 => ?_
       rotate_left
       rw [List.getElem?_toArray]; rfl
       exact ⟨by kernel_rfl, by kernel_rfl, by kernel_rfl⟩
       exact ⟨fun _ _ _ _ h => h, rfl, rfl⟩
       exact fun wS hmS => rn_field _ _ _ rfl _ (.pointer (some ⟨b3, 3, none⟩)) (he29.tmp 3 _ rfl) (by kernel_rfl)
       clear he29
       refine wh_store (i := 7) (op := ?op1d01111_7) (fuel := 0) ?hr1d01111_7 ?hi1d01111_7 he30 hm15 3 rfl ?hd1d01111_7 ?hw1d01111_7 42 (.tmp 41) (.tmp 40) ?ho1d01111_7 (3) (he30.tmp 41 _ rfl) _ (he30.tmp 40 _ rfl) 1 one42.size rfl (by kernel_rfl) (by simp) (#[.slice d1.1 d1.2.1 d1.2.2.1, .string (z0), .slice d2.1 d2.2.1 d2.2.2.1, .slice (some ⟨b83_29, 0, none⟩) (nn2 + 1) (cap83_29), .slice none 0 0]) (by kernel_rfl) ⟨rfl, rfl, trivial⟩ (fun w16 hm16 => ?k1d01111_7)
       case hi1d01111_7 => rw [List.getElem?_toArray]; rfl
       case hw1d01111_7 => exact rfl
       case hr1d01111_7 => kernel_rfl
       case hd1d01111_7 | ho1d01111_7 => rfl
       clear hm15
       refine wpAnyH_done (by kernel_rfl) ?_ _
       refine in_normal ?_
       refine then_normal ?_
       refine wp_region_lit ?_
       refine wl_val he30 rfl rfl (.int .i64 (((kk2 : Nat) : Int))) (rn_move _ (Or.inl rfl) _ (he30.tmp 6 _ rfl)) (fun a31 he31 => ?_)
       clear he30
       refine wl_val he31 rfl rfl (.int .i64 (((kk2 - 1 : Nat) : Int))) (rn_bin _ _ _ _ _ rfl .i64 _ _ (he31.tmp 33 _ rfl) rfl (.int .i64 (IntKind.wrap .i64 (((kk2 : Nat) : Int) - 1))) _ rfl (subN (i := kk2) (c := 1) .i64 (by omega) (by rw [IntKind.wrap_i64]; omega))) (fun a32 he32 => ?_)
       clear he31
       refine wl_val he32 rfl rfl (.int .i64 (((kk2 - 1 : Nat) : Int))) (rn_move _ (Or.inr rfl) _ (he32.tmp 34 _ rfl)) (fun a33 he33 => ?_)
       clear he32
       refine wpList_nil ?_
       exact ⟨1 * (kk2 - 1), by omega, Or.inr ⟨kk2 - 1, (oo2) ++ ([((d4.1 : Nat) : Int)]), nn2 + 1, b83_29, cap83_29, cur83_29, d4.2, rfl, ⟨by simp [hn2], by omega, rw83_29, by omega⟩, he33.sub _ ⟨rfl, rfl, rfl, rfl, rfl, rfl, rfl, rfl, rfl, rfl, rfl, rfl, rfl, rfl, rfl, rfl, rfl, rfl, rfl, rfl, trivial⟩, hm16.sub _ ⟨rfl, rfl, rfl, rfl, rfl, trivial⟩⟩⟩
  ·
   have hd1p := of_decide_eq_true hd1
   refine wl_val he12 rfl rfl (.bool true) (rn_bin _ _ _ _ _ rfl .i64 _ _ (he12.tmp 14 _ rfl) rfl (.bool (decide (((i : Nat) : Int) < 12))) _ rfl (congrArg Value.bool (hd1))) (fun a13 he13 => ?_)
   clear he12
   refine wl_end ?_
   refine wp_condT (he := he13) rfl ?_
   refine wp_skip ?_
   refine then_normal ?_
   refine wp_seq ?_
   refine wp_block ?_
   refine wp_region_lit ?_
   refine wl_val he13 rfl rfl (.slice (some ⟨ob, 0, none⟩) (on) (oc)) (rn_move _ (Or.inl rfl) _ (he13.tmp 4 _ rfl)) (fun a14 he14 => ?_)
   clear he13
   refine wl_val he14 rfl rfl (.pointer (some ⟨B, 0, none⟩)) (rn_move _ (Or.inl rfl) _ (he14.tmp 0 _ rfl)) (fun a15 he15 => ?_)
   clear he14
   refine wl_buildSlice he15 hm8 5 rfl rfl rfl _ _ _ rfl #[(0, .int .i64 (0)), (1, .int .i64 (1)), (2, .int .i64 (2)), (3, .int .i64 (3)), (4, .int .i64 (5)), (5, .int .i64 (7)), (6, .int .i64 (9)), (7, .int .i64 (10)), (8, .int .i64 (200)), (9, .int .i64 (255))] (by kernel_rfl) 3 (#[.int .i64 (0), .int .i64 (1), .int .i64 (2), .int .i64 (3), .int .i64 (5), .int .i64 (7), .int .i64 (9), .int .i64 (10), .int .i64 (200), .int .i64 (255)]) (by kernel_rfl) (fun a16 w9 b5 he16 hm9 => ?_)
   clear he15 hm8
   refine wl_callD he16 hm9 1 rfl rfl rfl _ #[.pointer (some ⟨B, 0, none⟩), .slice (some ⟨b5, 0, none⟩) (10) (10)] (enter_call _ _ _ rfl 28 #[] #[] rfl #[.pointer (some ⟨B, 0, none⟩), .slice (some ⟨b5, 0, none⟩) (10) (10)] (map2 (he16.tmp 19 _ rfl) (he16.tmp 20 _ rfl)) #[.pointer (some ⟨B, 0, none⟩), .slice (some ⟨b5, 0, none⟩) (10) (10)] rfl (fun _ _ => by kernel_rfl)) (d_one (h.kb hm9.keep (hm9.bx 1 _ _ _ _ rfl)) (by omega) b5 [0, 1, 2, 3, 5, 7, 9, 10, 200, 255] _ (hm9.bx 5 _ _ _ _ rfl) rfl (hm9.apart 5 1 _ _ rfl rfl (by decide) rfl) (by decide) (by decide) _ rfl) (fun d3 a17 w10 hd3 he17 hm10 => ?_)
   clear he16 hm9
   have hd3b : 0 ≤ d3 ∧ d3 ≤ 4294967295 := by simp at hd3; omega
   obtain ⟨d3n, rfl⟩ := Int.eq_ofNat_of_zero_le hd3b.1
   have hd3c : d3n ≤ 255 := by simp at hd3; omega
   refine wl_val he17 rfl rfl (.int .u8 (((d3n : Nat) : Int))) (rn_conv _ _ _ rfl _ (.int .u8 (IntKind.u8.wrap (((d3n : Nat) : Int)))) _ (he17.tmp 21 _ rfl) (by kernel_rfl) (wr8 (n := d3n) (by omega))) (fun a18 he18 => ?_)
   clear he17
   refine wl_buildSlice he18 hm10 6 rfl rfl rfl _ _ _ rfl #[(0, .int .u8 (((d3n : Nat) : Int)))] (pmap1 (he18.tmp 22 _ rfl)) 5 ((cellsOf u8A [d3n]).toArray) (by kernel_rfl) (fun a19 w11 b6 he19 hm11 => ?_)
   clear he18 hm10
   have rw6_0 : Rw ((cellsOf u8A [d3n]).toArray) 1 1 1 (cellsOf u8A ([d3n])) := Rw.lits u8A.sz [d3n] (by simp [maxLen])
   refine wl_append (k := on) (cap := oc) he19 hm11 4 rfl rfl rfl _ _ _ rfl el5 (he19.tmp 18 _ rfl) horw ⟨b6, 0, none⟩ 1 1 (he19.tmp 23 _ rfl) (cellsOf u8A ([d3n])) (rw6_0.len) (fun j u hu => by rw [Addr.add_mid, Nat.zero_add, (hm11.bx 6 _ _ _ _ rfl).cell]; exact rw6_0.get j u hu) (cellsOf_one u8A.one _) (by simp only [maxLen]; omega) (by omega) (fun a20 w12 b4_20 cap4_20 cur4_20 he20 hm12 rw4_20 => ?_)
   clear he19 hm11
   replace rw4_20 := rw4_20.app
   refine wl_val he20 rfl rfl (.slice (some ⟨b4_20, 0, none⟩) (on + 1) (cap4_20)) (rn_move _ (Or.inr rfl) _ (he20.tmp 24 _ rfl)) (fun a21 he21 => ?_)
   clear he20
   refine wpList_nil ?_
   refine in_normal ?_
   refine then_normal ?_
   refine wp_region_lit ?_
   refine wl_val he21 rfl rfl (.int .i64 (((i : Nat) : Int))) (rn_move _ (Or.inl rfl) _ (he21.tmp 5 _ rfl)) (fun a22 he22 => ?_)
   clear he21
   refine wl_val he22 rfl rfl (.int .i64 (((i + 1 : Nat) : Int))) (rn_bin _ _ _ _ _ rfl .i64 _ _ (he22.tmp 16 _ rfl) rfl (.int .i64 (IntKind.wrap .i64 (((i : Nat) : Int) + 1))) _ rfl (addN (i := i) (c := 1) (by omega))) (fun a23 he23 => ?_)
   clear he22
   refine wl_val he23 rfl rfl (.int .i64 (((i + 1 : Nat) : Int))) (rn_move _ (Or.inr rfl) _ (he23.tmp 17 _ rfl)) (fun a24 he24 => ?_)
   clear he23
   refine wpList_nil ?_
   exact ⟨12 - (i + 1), by omega, i + 1, (o) ++ ([d3n]), on + 1, b4_20, cap4_20, cur4_20, q + 1, rfl, ⟨by omega, by simp [hcn], by omega, rw4_20, by omega⟩, he24.sub _ ⟨rfl, rfl, rfl, rfl, rfl, rfl, rfl, rfl, rfl, rfl, rfl, trivial⟩, hm12.sub _ ⟨rfl, rfl, rfl, rfl, trivial⟩⟩
end Go.Proofs.Ytkaekiodjjhjkaa.W
