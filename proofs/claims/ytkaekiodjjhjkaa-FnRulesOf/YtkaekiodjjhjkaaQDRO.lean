/- The draw of rules and bytes; the law of rules and bytes that are drawn: its walk. -/
import Derived.Test.YtkaekiodjjhjkaaQDST
namespace Go.Proofs.Ytkaekiodjjhjkaa.W
open Go.RowKit
set_option linter.unusedVariables false
set_option linter.unusedSimpArgs false
theorem _root_.Go.Proofs.Ytkaekiodjjhjkaa.Src.kb {w w' : World} {a : Option Addr} {len : Nat} (h : Src w a len) (k : KB [] w w') : Src w' a len := by
  rcases h with h | ⟨g, off, e, hg, hc⟩
  · exact .inl h
  · refine .inr ⟨g, off, e, Nat.lt_of_lt_of_le hg k.size, fun j hj => ?_⟩
    obtain ⟨v, hv, hx⟩ := hc j hj
    exact ⟨v, hv, by rw [World.cell?_of_block (k.block g hg (by simp))]; exact hx⟩
theorem _root_.Go.Proofs.Ytkaekiodjjhjkaa.RS.of {w wk : World} {B : Nat} {a : Option Addr} {n cap p : Nat} (hx : BX wk B 67 (rdA a n cap p)) (hg : w.heap.size ≤ B) (k : KB [] w wk) (hs : Src w a n) (hl : n ≤ 2000) : RS w wk B a n cap p := ⟨hx, hg, k.below, hs, hl⟩
theorem c_open (a : Option Addr) (len cap : Nat) (w : World) (hc : len ≤ cap) (hs : Src w a len) (hl : cap < 2 ^ 63) : Calls Try.prog 14 #[.slice a len cap] w fun e w' => NewRow w (fun (x : Nat) b => .pointer (some ⟨b, 0, none⟩)) 67 (fun x => rdA a x cap 0) (fun x => Src w a x ∧ x ≤ 2000) e w' := by
  refine (open_s w a len cap hc hs hl).mono ?_
  rintro e w' ⟨n, rfl, h⟩
  exact ⟨n, w.heap.size, rfl, h.box, ⟨h.src, h.le⟩, Nat.le_refl _, h.bel⟩
theorem rn_fld {P : Program} {op : Oper} {a : Act} {w : World} (T : TypeId) (x : Operand) (f : Nat) (ho : op.op = .field T x f) (v u : Value) (hx : a.eval x = v) (hr : (Instr.field T v f).run P w = .ok u w) : (execOp a.eval op).run P w = .ok (.value u) w := by
  unfold execOp
  simp only [ho, hx, Sem.run_bind, hr]; rfl
structure DrX where
  L : List Ru
  cap : Nat
  cur : Array Value
  came : ByteArray
def ru0 : Ru := ⟨0, 0, 0, 0, 0⟩
abbrev DrPost (w : World) (e : Ending) (w' : World) : Prop :=
  NewRow w (fun (x : DrX) b => .tuple #[.slice (some ⟨b, 0, none⟩) x.L.length x.cap, .string x.came]) 30 (fun x => x.cur) (fun x => Rw x.cur x.L.length x.cap 5 (cellsOf Ru.arr x.L) ∧ x.L.length ≤ 6 ∧ x.came.size = 12) e w'
theorem run_slc {P : Program} {w : World} {T e : TypeId} (hT : P.underlying T = some (.slice e)) (b p n c i sz : Nat) (hs : ∀ w, (sizeOf e).run P w = .ok sz w) (hi : i ≤ c) : (Instr.sliceAt T (.slice (some ⟨b, p, none⟩) n c) none (some (.int .i64 ((i : Nat) : Int))) none).run P w = .ok (.slice (some ⟨b, p, none⟩) i c) w := by
  have k2 : (i : Int) ≤ (c : Int) := by omega
  simp [Instr.sliceAt, Instr.slice, Instr.sliceBounds, Instr.sliceBound, asIntOf, underlying, hT, Sem.run_bind, Result.andThen, k2, hi, hs, Addr.add]
theorem rw_cells {cur : Array Value} {n cap : Nat} {l : List Ru} (rw_ : Rw cur n cap 5 (cellsOf Ru.arr l)) (i j : Nat) (hi : i < l.length) (hj : j < 5) : cur[0 + i * 5 + j]? = (l.getD i ru0).arr[j]? := by
  have hg := cellsOf_get RuSz l i j _ (List.getElem?_eq_getElem hi) hj
  rw [List.getD_eq_getElem?_getD, List.getElem?_eq_getElem hi, Option.getD_some, ← hg, Nat.zero_add]
  have hlt : i * 5 + j < (cellsOf Ru.arr l).length := by rw [cellsOf_len RuSz]; omega
  rw [List.getElem?_eq_getElem hlt]
  exact rw_.get _ _ (List.getElem?_eq_getElem hlt)
theorem ruOks_pre {f : Nat → Ru} {n i : Nat} (h : ruOks f n = true) (hi : i ≤ n) : ruOks f i = true := by
  obtain ⟨h1, h2⟩ := ruOks_all h
  rw [ruOks, ruAll_yes fun j hj => h1 j (by omega), Bool.true_and]
  exact decide_eq_true (by omega)
theorem ofM_hit {f : Nat → Ru} {n i : Nat} {s : ByteArray} (h : ruOks f n = true) (hs : s.size = 12) (hi : i < n) (hj : ∀ j, j < i → holdsR (f j) s = false) (hh : holdsR (f i) s = true) : ofM f n s = ((f i).ver, (f i).key) := (ofM_yes h hs).trans (ofR_at hi hj hh)
theorem ofM_end {f : Nat → Ru} {n : Nat} {s : ByteArray} (h : ruOks f n = true) (hs : s.size = 12) (hj : ∀ j, j < n → holdsR (f j) s = false) : ofM f n s = (1, 0) := (ofM_yes h hs).trans (ofR_end hj)
theorem ofR_ge {f : Nat → Ru} {s : ByteArray} {n : Nat} (h : ∀ i, i < n → ruOk (f i) = true) : ∀ k i, i + k ≤ n → 0 ≤ (ofR f s k i).1
  | 0, _, _ => by simp [ofR]
  | k + 1, i, hk => by
    rw [ofR]
    split
    · exact (ruOk_is (h i (by omega))).ver0
    · exact ofR_ge h k (i + 1) (by omega)
theorem ofM_ge {f : Nat → Ru} {n : Nat} {s : ByteArray} (h : ruOks f n = true) (hs : s.size = 12) : 0 ≤ (ofM f n s).1 := by
  rw [ofM_yes h hs]; exact ofR_ge (ruOks_all h).1 n 0 (by omega)
set_option maxRecDepth 100000 in
set_option maxHeartbeats 4000000 in
theorem c_drawOf (a : Option Addr) (len cap : Nat) (w : World) (hc : len ≤ cap) (hs : Src w a len) (hl : cap < 2 ^ 63) :
    Calls Try.prog 5 #[.slice (a) (len) (cap)] w fun e w' => DrPost w e w' := by
  refine calls_begin Try.func5 rfl 14 rfl (Nat.le_of_ble_eq_true rfl) [(0, .slice (a) (len) (cap))] ⟨rfl, trivial⟩ (fun a0 he0 hm0 => ?_)
  refine wp_seqR ?_
  refine wl_val he0 rfl rfl (.slice none 0 0) (rn_move _ (Or.inr rfl) _ rfl) (fun a1 he1 => ?_)
  clear he0
  refine wl_val he1 rfl rfl (.string (⟨#[]⟩)) (rn_move _ (Or.inr rfl) _ rfl) (fun a2 he2 => ?_)
  clear he1
  refine wl_end ?_
  refine wp_seqR ?_
  refine wl_val he2 rfl rfl (.slice (a) (len) (cap)) (rn_move _ (Or.inl rfl) _ (he2.tmp 0 _ rfl)) (fun a3 he3 => ?_)
  clear he2
  refine wl_callN he3 hm0 1 rfl rfl rfl _ #[.slice (a) (len) (cap)] (enter_call _ _ _ rfl 14 #[] #[] rfl #[.slice (a) (len) (cap)] (map1 (he3.tmp 6 _ rfl)) #[.slice (a) (len) (cap)] rfl (fun _ _ => by kernel_rfl)) (c_open a len cap _ hc (hs.kb hm0.keep) hl) (fun x1 b1 a4 w1 hx1 he4 hm1 => ?_)
  clear he3 hm0
  refine wl_val he4 rfl rfl (.pointer (some ⟨b1, 0, none⟩)) (rn_move _ (Or.inr rfl) _ (he4.tmp 7 _ rfl)) (fun a5 he5 => ?_)
  clear he4
  refine wl_end ?_
  refine wp_seqR ?_
  refine wl_val he5 rfl rfl (.pointer (some ⟨b1, 0, none⟩)) (rn_move _ (Or.inl rfl) _ (he5.tmp 4 _ rfl)) (fun a6 he6 => ?_)
  clear he5
  have hgb := (hm1.own 1 _ rfl rfl).resolve_right (by simp)
  have hsb := hx1.1
  have hlb := hx1.2
  refine wl_callDN he6 hm1 1 rfl 2 rfl (by decide) rfl rfl _ #[.pointer (some ⟨b1, 0, none⟩)] (enter_call _ _ _ rfl 15 #[] #[] rfl #[.pointer (some ⟨b1, 0, none⟩)] (map1 (he6.tmp 8 _ rfl)) #[.pointer (some ⟨b1, 0, none⟩)] rfl (fun _ _ => by kernel_rfl)) (d_rules _ (RS.of (hm1.bx 1 _ _ _ _ rfl) hgb hm1.keep hsb hlb) (by omega)) (fun d1 b2 a7 w2 hd1 he7 hm2 => ?_)
  clear he6 hm1
  obtain ⟨hrw, hl6, hq1⟩ := hd1
  refine wl_val he7 rfl rfl (.slice (some ⟨b2, 0, none⟩) (d1.L.length) (d1.cap)) (rn_move _ (Or.inr rfl) _ (he7.tmp 9 _ rfl)) (fun a8 he8 => ?_)
  clear he7
  refine wl_end ?_
  refine wp_seqR ?_
  refine wl_val he8 rfl rfl (.slice (some ⟨b2, 0, none⟩) (d1.L.length) (d1.cap)) (rn_move _ (Or.inl rfl) _ (he8.tmp 5 _ rfl)) (fun a9 he9 => ?_)
  clear he8
  refine wl_val he9 rfl rfl (.pointer (some ⟨b1, 0, none⟩)) (rn_move _ (Or.inl rfl) _ (he9.tmp 4 _ rfl)) (fun a10 he10 => ?_)
  clear he9
  refine wl_callD he10 hm2 1 rfl rfl rfl _ #[.pointer (some ⟨b1, 0, none⟩)] (enter_call _ _ _ rfl 16 #[] #[] rfl #[.pointer (some ⟨b1, 0, none⟩)] (map1 (he10.tmp 11 _ rfl)) #[.pointer (some ⟨b1, 0, none⟩)] rfl (fun _ _ => by kernel_rfl)) (d_start _ (RS.of (hm2.bx 1 _ _ _ _ rfl) hgb hm2.keep hsb hlb) (by omega)) (fun d2 a11 w3 hd2 he11 hm3 => ?_)
  clear he10 hm2
  obtain ⟨hs12, hq2⟩ := hd2
  refine wl_val he11 rfl rfl (.string (d2.came)) (rn_fld _ _ _ rfl _ (.string (d2.came)) (he11.tmp 12 _ rfl) (by kernel_rfl)) (fun a12 he12 => ?_)
  clear he11
  refine wl_val he12 rfl rfl (.slice (some ⟨b2, 0, none⟩) (d1.L.length) (d1.cap)) (rn_move _ (Or.inr rfl) _ (he12.tmp 10 _ rfl)) (fun a13 he13 => ?_)
  clear he12
  refine wl_val he13 rfl rfl (.string (d2.came)) (rn_move _ (Or.inr rfl) _ (he13.tmp 13 _ rfl)) (fun a14 he14 => ?_)
  clear he13
  refine wl_end ?_
  refine wp_ret ?_
  exact bodyPost_ret (results_tmp2 he14 _ _ Try.results5 _ _ rfl rfl) he14.defers ⟨⟨d1.L, d1.cap, d1.cur, d2.came⟩, _, rfl, hm3.bx 2 _ _ _ _ rfl, ⟨hrw, hl6, hs12⟩, (hm3.own 2 _ rfl rfl).resolve_right (by simp), hm3.below⟩
set_option maxRecDepth 100000 in
set_option maxHeartbeats 4000000 in
theorem law_rof (a : Option Addr) (len cap : Nat) (w : World) (hc : len ≤ cap) (hs : Src w a len) (hl : cap < 2 ^ 63) :
    Calls Try.prog 3 #[.slice (a) (len) (cap)] w fun e w' => e = .returned (.bool true) ∧ Below w.heap.size w w' := by
  refine calls_begin Try.func3 rfl 115 rfl (Nat.le_of_ble_eq_true rfl) [(0, .slice (a) (len) (cap))] ⟨rfl, trivial⟩ (fun a0 he0 hm0 => ?_)
  refine wp_seqR ?_
  refine wl_val he0 rfl rfl (.bool false) (rn_move _ (Or.inr rfl) _ rfl) (fun a1 he1 => ?_)
  clear he0
  refine wl_end ?_
  refine wp_seq ?_
  refine wp_seqR ?_
  refine wl_val he1 rfl rfl (.slice (a) (len) (cap)) (rn_move _ (Or.inl rfl) _ (he1.tmp 0 _ rfl)) (fun a2 he2 => ?_)
  clear he1
  refine wl_val he2 rfl rfl (.int .i64 (((len : Nat) : Int))) (rn_builtin _ _ _ rfl #[.slice (a) (len) (cap)] (map1 (he2.tmp 12 _ rfl)) (.int .i64 (((len : Nat) : Int))) (by kernel_rfl)) (fun a3 he3 => ?_)
  clear he2
  cases hd1 : (decide (((len : Nat) : Int) > 1048576))
  ·
   have hd1p := of_decide_eq_false hd1
   refine wl_val he3 rfl rfl (.bool false) (rn_bin _ _ _ _ _ rfl .i64 _ _ (he3.tmp 13 _ rfl) rfl (.bool (decide (((len : Nat) : Int) > 1048576))) _ rfl (congrArg Value.bool (hd1))) (fun a4 he4 => ?_)
   clear he3
   refine wl_end ?_
   refine wp_condF (he := he4) rfl ?_
   refine wp_skip ?_
   refine then_normal ?_
   refine wp_seqR ?_
   refine wl_val he4 rfl rfl (.slice (a) (len) (cap)) (rn_move _ (Or.inl rfl) _ (he4.tmp 0 _ rfl)) (fun a5 he5 => ?_)
   clear he4
   refine wl_callN he5 hm0 1 rfl rfl rfl _ #[.slice (a) (len) (cap)] (enter_call _ _ _ rfl 5 #[] #[] rfl #[.slice (a) (len) (cap)] (map1 (he5.tmp 16 _ rfl)) #[.slice (a) (len) (cap)] rfl (fun _ _ => by kernel_rfl)) (c_drawOf a len cap _ hc (hs.kb hm0.keep) hl) (fun x1 b1 a6 w1 hx1 he6 hm1 => ?_)
   clear he5 hm0
   obtain ⟨hrw, hl6, hs12⟩ := hx1
   obtain ⟨f, hf⟩ : ∃ f : Nat → Ru, f = fun i => x1.L.getD i ru0 := ⟨_, rfl⟩
   have hcell : ∀ i j, i < x1.L.length → j < 5 → x1.cur[0 + i * 5 + j]? = (f i).arr[j]? := fun i j h1 h2 => by rw [hf]; exact rw_cells hrw i j h1 h2
   have hRow : ∀ (w' : World) (m : Nat), m ≤ x1.L.length → BX w' b1 30 x1.cur → RowAt w' b1 0 m 5 fun i => (f i).arr := fun w' m hm hx => ⟨hx.lt, fun i hi j hj => ⟨by rw [hx.cell]; exact hcell i j (by omega) hj, hj⟩⟩
   have hcap := hrw.le
   refine wl_val he6 rfl rfl (.tuple #[.slice (some ⟨b1, 0, none⟩) (x1.L.length) (x1.cap), .string (x1.came)]) (rn_move _ (Or.inl rfl) _ (he6.tmp 17 _ rfl)) (fun a7 he7 => ?_)
   clear he6
   refine wl_val he7 rfl rfl (.slice (some ⟨b1, 0, none⟩) (x1.L.length) (x1.cap)) (rn_extract _ _ rfl _ (he7.tmp 15 _ rfl) _ rfl) (fun a8 he8 => ?_)
   clear he7
   refine wl_val he8 rfl rfl (.string (x1.came)) (rn_extract _ _ rfl _ (he8.tmp 15 _ rfl) _ rfl) (fun a9 he9 => ?_)
   clear he8
   refine wl_val he9 rfl rfl (.slice (some ⟨b1, 0, none⟩) (x1.L.length) (x1.cap)) (rn_move _ (Or.inr rfl) _ (he9.tmp 18 _ rfl)) (fun a10 he10 => ?_)
   clear he9
   refine wl_val he10 rfl rfl (.string (x1.came)) (rn_move _ (Or.inr rfl) _ (he10.tmp 19 _ rfl)) (fun a11 he11 => ?_)
   clear he10
   refine wl_end ?_
   refine wp_seqR ?_
   refine wl_val he11 rfl rfl (.slice (some ⟨b1, 0, none⟩) (x1.L.length) (x1.cap)) (rn_move _ (Or.inl rfl) _ (he11.tmp 3 _ rfl)) (fun a12 he12 => ?_)
   clear he11
   refine wl_val he12 rfl rfl (.string (x1.came)) (rn_move _ (Or.inl rfl) _ (he12.tmp 4 _ rfl)) (fun a13 he13 => ?_)
   clear he12
   cases hd2 : (ruOks f x1.L.length)
   ·
    have hok : ruOks f x1.L.length = false := hd2
    have hs1 : ((ofM f x1.L.length x1.came).1 != (ofM f x1.L.length x1.came).1) = false := by simp
    have hs2 : ((ofM f x1.L.length x1.came).2 != (ofM f x1.L.length x1.came).2) = false := by simp
    have hs3 : ((ofM f x1.L.length x1.came).1 == (ofM f x1.L.length x1.came).1) = true := by simp
    have hs4 : ((ofM f x1.L.length x1.came).2 == (ofM f x1.L.length x1.came).2) = true := by simp
    have hneg : decide ((ofM f x1.L.length x1.came).1 < 0) = true := by rw [ofM_no hok]; rfl
    refine wl_call he13 hm1 rfl rfl _ #[.slice (some ⟨b1, 0, none⟩) (x1.L.length) (x1.cap), .string (x1.came)] (enter_call _ _ _ rfl 6 #[] #[] rfl #[.slice (some ⟨b1, 0, none⟩) (x1.L.length) (x1.cap), .string (x1.came)] (map2 (he13.tmp 21 _ rfl) (he13.tmp 22 _ rfl)) #[.slice (some ⟨b1, 0, none⟩) (x1.L.length) (x1.cap), .string (x1.came)] rfl (fun _ _ => by kernel_rfl)) (.tuple #[.int .i64 ((ofM f x1.L.length x1.came).1), .int .i64 ((ofM f x1.L.length x1.came).2)]) (c_Of f b1 0 x1.L.length x1.cap x1.came _ (hRow _ x1.L.length (by omega) (hm1.bx 1 _ _ _ _ rfl)) (by omega)) (fun a14 w2 he14 hm2 => ?_)
    clear he13 hm1
    refine wl_val he14 rfl rfl (.tuple #[.int .i64 ((ofM f x1.L.length x1.came).1), .int .i64 ((ofM f x1.L.length x1.came).2)]) (rn_move _ (Or.inl rfl) _ (he14.tmp 23 _ rfl)) (fun a15 he15 => ?_)
    clear he14
    refine wl_val he15 rfl rfl (.int .i64 ((ofM f x1.L.length x1.came).1)) (rn_extract _ _ rfl _ (he15.tmp 20 _ rfl) _ rfl) (fun a16 he16 => ?_)
    clear he15
    refine wl_val he16 rfl rfl (.int .i64 ((ofM f x1.L.length x1.came).2)) (rn_extract _ _ rfl _ (he16.tmp 20 _ rfl) _ rfl) (fun a17 he17 => ?_)
    clear he16
    refine wl_val he17 rfl rfl (.int .i64 ((ofM f x1.L.length x1.came).1)) (rn_move _ (Or.inr rfl) _ (he17.tmp 24 _ rfl)) (fun a18 he18 => ?_)
    clear he17
    refine wl_val he18 rfl rfl (.int .i64 ((ofM f x1.L.length x1.came).2)) (rn_move _ (Or.inr rfl) _ (he18.tmp 25 _ rfl)) (fun a19 he19 => ?_)
    clear he18
    refine wl_end ?_
    refine wp_seqR ?_
    refine wl_val he19 rfl rfl (.slice (some ⟨b1, 0, none⟩) (x1.L.length) (x1.cap)) (rn_move _ (Or.inl rfl) _ (he19.tmp 3 _ rfl)) (fun a20 he20 => ?_)
    clear he19
    refine wl_val he20 rfl rfl (.string (x1.came)) (rn_move _ (Or.inl rfl) _ (he20.tmp 4 _ rfl)) (fun a21 he21 => ?_)
    clear he20
    refine wl_call he21 hm2 rfl rfl _ #[.slice (some ⟨b1, 0, none⟩) (x1.L.length) (x1.cap), .string (x1.came)] (enter_call _ _ _ rfl 7 #[] #[] rfl #[.slice (some ⟨b1, 0, none⟩) (x1.L.length) (x1.cap), .string (x1.came)] (map2 (he21.tmp 27 _ rfl) (he21.tmp 28 _ rfl)) #[.slice (some ⟨b1, 0, none⟩) (x1.L.length) (x1.cap), .string (x1.came)] rfl (fun _ _ => by kernel_rfl)) (.tuple #[.int .i64 ((ofM f x1.L.length x1.came).1), .int .i64 ((ofM f x1.L.length x1.came).2)]) (c_spOf f b1 0 x1.L.length x1.cap x1.came _ (hRow _ x1.L.length (by omega) (hm2.bx 1 _ _ _ _ rfl)) (by omega)) (fun a22 w3 he22 hm3 => ?_)
    clear he21 hm2
    refine wl_val he22 rfl rfl (.tuple #[.int .i64 ((ofM f x1.L.length x1.came).1), .int .i64 ((ofM f x1.L.length x1.came).2)]) (rn_move _ (Or.inl rfl) _ (he22.tmp 29 _ rfl)) (fun a23 he23 => ?_)
    clear he22
    refine wl_val he23 rfl rfl (.int .i64 ((ofM f x1.L.length x1.came).1)) (rn_extract _ _ rfl _ (he23.tmp 26 _ rfl) _ rfl) (fun a24 he24 => ?_)
    clear he23
    refine wl_val he24 rfl rfl (.int .i64 ((ofM f x1.L.length x1.came).2)) (rn_extract _ _ rfl _ (he24.tmp 26 _ rfl) _ rfl) (fun a25 he25 => ?_)
    clear he24
    refine wl_val he25 rfl rfl (.int .i64 ((ofM f x1.L.length x1.came).1)) (rn_move _ (Or.inr rfl) _ (he25.tmp 30 _ rfl)) (fun a26 he26 => ?_)
    clear he25
    refine wl_val he26 rfl rfl (.int .i64 ((ofM f x1.L.length x1.came).2)) (rn_move _ (Or.inr rfl) _ (he26.tmp 31 _ rfl)) (fun a27 he27 => ?_)
    clear he26
    refine wl_end ?_
    refine wp_seq ?_
    refine wp_seqR ?_
    refine wl_val he27 rfl rfl (.int .i64 ((ofM f x1.L.length x1.came).1)) (rn_move _ (Or.inl rfl) _ (he27.tmp 5 _ rfl)) (fun a28 he28 => ?_)
    clear he27
    refine wl_val he28 rfl rfl (.int .i64 ((ofM f x1.L.length x1.came).1)) (rn_move _ (Or.inl rfl) _ (he28.tmp 7 _ rfl)) (fun a29 he29 => ?_)
    clear he28
    refine wl_val he29 rfl rfl (.bool false) (rn_bin _ _ _ _ _ rfl .i64 _ _ (he29.tmp 32 _ rfl) (he29.tmp 33 _ rfl) (.bool (((ofM f x1.L.length x1.came).1 != (ofM f x1.L.length x1.came).1))) _ rfl (congrArg Value.bool (hs1))) (fun a30 he30 => ?_)
    clear he29
    refine wl_val he30 rfl rfl (.bool false) (rn_move _ (Or.inl rfl) _ (he30.tmp 34 _ rfl)) (fun a31 he31 => ?_)
    clear he30
    refine wl_val he31 rfl (wanted_slot he31 3 false rfl 35 rfl false rfl true rfl) (.int .i64 ((ofM f x1.L.length x1.came).2)) (rn_move _ (Or.inl rfl) _ (he31.tmp 6 _ rfl)) (fun a32 he32 => ?_)
    clear he31
    refine wl_val he32 rfl (wanted_slot he32 3 false rfl 35 rfl false rfl true rfl) (.int .i64 ((ofM f x1.L.length x1.came).2)) (rn_move _ (Or.inl rfl) _ (he32.tmp 8 _ rfl)) (fun a33 he33 => ?_)
    clear he32
    refine wl_val he33 rfl (wanted_slot he33 3 false rfl 35 rfl false rfl true rfl) (.bool false) (rn_bin _ _ _ _ _ rfl .i64 _ _ (he33.tmp 36 _ rfl) (he33.tmp 37 _ rfl) (.bool (((ofM f x1.L.length x1.came).2 != (ofM f x1.L.length x1.came).2))) _ rfl (congrArg Value.bool (hs2))) (fun a34 he34 => ?_)
    clear he33
    refine wl_val he34 rfl rfl (.bool false) (rn_pickF _ _ _ rfl (he34.tmp 35 _ rfl) _ (he34.tmp 38 _ rfl)) (fun a35 he35 => ?_)
    clear he34
    refine wl_val he35 rfl rfl (.bool false) (rn_move _ (Or.inl rfl) _ (he35.tmp 39 _ rfl)) (fun a36 he36 => ?_)
    clear he35
    refine wl_val he36 rfl (wanted_slot he36 8 false rfl 40 rfl false rfl true rfl) (.int .i64 ((ofM f x1.L.length x1.came).1)) (rn_move _ (Or.inl rfl) _ (he36.tmp 5 _ rfl)) (fun a37 he37 => ?_)
    clear he36
    refine wl_val he37 rfl (wanted_slot he37 8 false rfl 40 rfl false rfl true rfl) (.bool true) (rn_bin _ _ _ _ _ rfl .i64 _ _ (he37.tmp 41 _ rfl) rfl (.bool (decide ((ofM f x1.L.length x1.came).1 < 0))) _ rfl (congrArg Value.bool (hneg))) (fun a38 he38 => ?_)
    clear he37
    refine wl_val he38 rfl rfl (.bool true) (rn_pickF _ _ _ rfl (he38.tmp 40 _ rfl) _ (he38.tmp 42 _ rfl)) (fun a39 he39 => ?_)
    clear he38
    refine wl_end ?_
    refine wp_condT (he := he39) rfl ?_
    refine wp_seqR ?_
    refine wl_val he39 rfl rfl (.int .i64 ((ofM f x1.L.length x1.came).1)) (rn_move _ (Or.inl rfl) _ (he39.tmp 5 _ rfl)) (fun a40 he40 => ?_)
    clear he39
    refine wl_val he40 rfl rfl (.int .i64 ((ofM f x1.L.length x1.came).1)) (rn_move _ (Or.inl rfl) _ (he40.tmp 7 _ rfl)) (fun a41 he41 => ?_)
    clear he40
    refine wl_val he41 rfl rfl (.bool true) (rn_bin _ _ _ _ _ rfl .i64 _ _ (he41.tmp 44 _ rfl) (he41.tmp 45 _ rfl) (.bool (((ofM f x1.L.length x1.came).1 == (ofM f x1.L.length x1.came).1))) _ rfl (congrArg Value.bool (hs3))) (fun a42 he42 => ?_)
    clear he41
    refine wl_val he42 rfl rfl (.bool true) (rn_move _ (Or.inl rfl) _ (he42.tmp 46 _ rfl)) (fun a43 he43 => ?_)
    clear he42
    refine wl_val he43 rfl (wanted_slot he43 3 true rfl 47 rfl true rfl true rfl) (.int .i64 ((ofM f x1.L.length x1.came).2)) (rn_move _ (Or.inl rfl) _ (he43.tmp 6 _ rfl)) (fun a44 he44 => ?_)
    clear he43
    refine wl_val he44 rfl (wanted_slot he44 3 true rfl 47 rfl true rfl true rfl) (.int .i64 ((ofM f x1.L.length x1.came).2)) (rn_move _ (Or.inl rfl) _ (he44.tmp 8 _ rfl)) (fun a45 he45 => ?_)
    clear he44
    refine wl_val he45 rfl (wanted_slot he45 3 true rfl 47 rfl true rfl true rfl) (.bool true) (rn_bin _ _ _ _ _ rfl .i64 _ _ (he45.tmp 48 _ rfl) (he45.tmp 49 _ rfl) (.bool (((ofM f x1.L.length x1.came).2 == (ofM f x1.L.length x1.came).2))) _ rfl (congrArg Value.bool (hs4))) (fun a46 he46 => ?_)
    clear he45
    refine wl_val he46 rfl rfl (.bool true) (rn_pickT _ _ _ rfl (he46.tmp 47 _ rfl) _ (he46.tmp 50 _ rfl)) (fun a47 he47 => ?_)
    clear he46
    refine wl_val he47 rfl rfl (.bool true) (rn_move _ (Or.inr rfl) _ (he47.tmp 51 _ rfl)) (fun a48 he48 => ?_)
    clear he47
    refine wl_end ?_
    refine wp_ret ?_
    refine ret_then ?_
    exact bodyPost_ret (results_tmp he48 _ Try.results3 _ rfl) he48.defers ⟨rfl, hm3.below⟩
   ·
    have hok : ruOks f x1.L.length = true := hd2
    have hs1 : ((ofM f x1.L.length x1.came).1 != (ofM f x1.L.length x1.came).1) = false := by simp
    have hs2 : ((ofM f x1.L.length x1.came).2 != (ofM f x1.L.length x1.came).2) = false := by simp
    have hs3 : ((ofM f x1.L.length x1.came).1 == (ofM f x1.L.length x1.came).1) = true := by simp
    have hs4 : ((ofM f x1.L.length x1.came).2 == (ofM f x1.L.length x1.came).2) = true := by simp
    have hall := (ruOks_all hok).1
    have hneg : decide ((ofM f x1.L.length x1.came).1 < 0) = false := decide_eq_false (by have := ofM_ge (s := x1.came) hok hs12; omega)
    refine wl_call he13 hm1 rfl rfl _ #[.slice (some ⟨b1, 0, none⟩) (x1.L.length) (x1.cap), .string (x1.came)] (enter_call _ _ _ rfl 6 #[] #[] rfl #[.slice (some ⟨b1, 0, none⟩) (x1.L.length) (x1.cap), .string (x1.came)] (map2 (he13.tmp 21 _ rfl) (he13.tmp 22 _ rfl)) #[.slice (some ⟨b1, 0, none⟩) (x1.L.length) (x1.cap), .string (x1.came)] rfl (fun _ _ => by kernel_rfl)) (.tuple #[.int .i64 ((ofM f x1.L.length x1.came).1), .int .i64 ((ofM f x1.L.length x1.came).2)]) (c_Of f b1 0 x1.L.length x1.cap x1.came _ (hRow _ x1.L.length (by omega) (hm1.bx 1 _ _ _ _ rfl)) (by omega)) (fun a14 w2 he14 hm2 => ?_)
    clear he13 hm1
    refine wl_val he14 rfl rfl (.tuple #[.int .i64 ((ofM f x1.L.length x1.came).1), .int .i64 ((ofM f x1.L.length x1.came).2)]) (rn_move _ (Or.inl rfl) _ (he14.tmp 23 _ rfl)) (fun a15 he15 => ?_)
    clear he14
    refine wl_val he15 rfl rfl (.int .i64 ((ofM f x1.L.length x1.came).1)) (rn_extract _ _ rfl _ (he15.tmp 20 _ rfl) _ rfl) (fun a16 he16 => ?_)
    clear he15
    refine wl_val he16 rfl rfl (.int .i64 ((ofM f x1.L.length x1.came).2)) (rn_extract _ _ rfl _ (he16.tmp 20 _ rfl) _ rfl) (fun a17 he17 => ?_)
    clear he16
    refine wl_val he17 rfl rfl (.int .i64 ((ofM f x1.L.length x1.came).1)) (rn_move _ (Or.inr rfl) _ (he17.tmp 24 _ rfl)) (fun a18 he18 => ?_)
    clear he17
    refine wl_val he18 rfl rfl (.int .i64 ((ofM f x1.L.length x1.came).2)) (rn_move _ (Or.inr rfl) _ (he18.tmp 25 _ rfl)) (fun a19 he19 => ?_)
    clear he18
    refine wl_end ?_
    refine wp_seqR ?_
    refine wl_val he19 rfl rfl (.slice (some ⟨b1, 0, none⟩) (x1.L.length) (x1.cap)) (rn_move _ (Or.inl rfl) _ (he19.tmp 3 _ rfl)) (fun a20 he20 => ?_)
    clear he19
    refine wl_val he20 rfl rfl (.string (x1.came)) (rn_move _ (Or.inl rfl) _ (he20.tmp 4 _ rfl)) (fun a21 he21 => ?_)
    clear he20
    refine wl_call he21 hm2 rfl rfl _ #[.slice (some ⟨b1, 0, none⟩) (x1.L.length) (x1.cap), .string (x1.came)] (enter_call _ _ _ rfl 7 #[] #[] rfl #[.slice (some ⟨b1, 0, none⟩) (x1.L.length) (x1.cap), .string (x1.came)] (map2 (he21.tmp 27 _ rfl) (he21.tmp 28 _ rfl)) #[.slice (some ⟨b1, 0, none⟩) (x1.L.length) (x1.cap), .string (x1.came)] rfl (fun _ _ => by kernel_rfl)) (.tuple #[.int .i64 ((ofM f x1.L.length x1.came).1), .int .i64 ((ofM f x1.L.length x1.came).2)]) (c_spOf f b1 0 x1.L.length x1.cap x1.came _ (hRow _ x1.L.length (by omega) (hm2.bx 1 _ _ _ _ rfl)) (by omega)) (fun a22 w3 he22 hm3 => ?_)
    clear he21 hm2
    refine wl_val he22 rfl rfl (.tuple #[.int .i64 ((ofM f x1.L.length x1.came).1), .int .i64 ((ofM f x1.L.length x1.came).2)]) (rn_move _ (Or.inl rfl) _ (he22.tmp 29 _ rfl)) (fun a23 he23 => ?_)
    clear he22
    refine wl_val he23 rfl rfl (.int .i64 ((ofM f x1.L.length x1.came).1)) (rn_extract _ _ rfl _ (he23.tmp 26 _ rfl) _ rfl) (fun a24 he24 => ?_)
    clear he23
    refine wl_val he24 rfl rfl (.int .i64 ((ofM f x1.L.length x1.came).2)) (rn_extract _ _ rfl _ (he24.tmp 26 _ rfl) _ rfl) (fun a25 he25 => ?_)
    clear he24
    refine wl_val he25 rfl rfl (.int .i64 ((ofM f x1.L.length x1.came).1)) (rn_move _ (Or.inr rfl) _ (he25.tmp 30 _ rfl)) (fun a26 he26 => ?_)
    clear he25
    refine wl_val he26 rfl rfl (.int .i64 ((ofM f x1.L.length x1.came).2)) (rn_move _ (Or.inr rfl) _ (he26.tmp 31 _ rfl)) (fun a27 he27 => ?_)
    clear he26
    refine wl_end ?_
    refine wp_seq ?_
    refine wp_seqR ?_
    refine wl_val he27 rfl rfl (.int .i64 ((ofM f x1.L.length x1.came).1)) (rn_move _ (Or.inl rfl) _ (he27.tmp 5 _ rfl)) (fun a28 he28 => ?_)
    clear he27
    refine wl_val he28 rfl rfl (.int .i64 ((ofM f x1.L.length x1.came).1)) (rn_move _ (Or.inl rfl) _ (he28.tmp 7 _ rfl)) (fun a29 he29 => ?_)
    clear he28
    refine wl_val he29 rfl rfl (.bool false) (rn_bin _ _ _ _ _ rfl .i64 _ _ (he29.tmp 32 _ rfl) (he29.tmp 33 _ rfl) (.bool (((ofM f x1.L.length x1.came).1 != (ofM f x1.L.length x1.came).1))) _ rfl (congrArg Value.bool (hs1))) (fun a30 he30 => ?_)
    clear he29
    refine wl_val he30 rfl rfl (.bool false) (rn_move _ (Or.inl rfl) _ (he30.tmp 34 _ rfl)) (fun a31 he31 => ?_)
    clear he30
    refine wl_val he31 rfl (wanted_slot he31 3 false rfl 35 rfl false rfl true rfl) (.int .i64 ((ofM f x1.L.length x1.came).2)) (rn_move _ (Or.inl rfl) _ (he31.tmp 6 _ rfl)) (fun a32 he32 => ?_)
    clear he31
    refine wl_val he32 rfl (wanted_slot he32 3 false rfl 35 rfl false rfl true rfl) (.int .i64 ((ofM f x1.L.length x1.came).2)) (rn_move _ (Or.inl rfl) _ (he32.tmp 8 _ rfl)) (fun a33 he33 => ?_)
    clear he32
    refine wl_val he33 rfl (wanted_slot he33 3 false rfl 35 rfl false rfl true rfl) (.bool false) (rn_bin _ _ _ _ _ rfl .i64 _ _ (he33.tmp 36 _ rfl) (he33.tmp 37 _ rfl) (.bool (((ofM f x1.L.length x1.came).2 != (ofM f x1.L.length x1.came).2))) _ rfl (congrArg Value.bool (hs2))) (fun a34 he34 => ?_)
    clear he33
    refine wl_val he34 rfl rfl (.bool false) (rn_pickF _ _ _ rfl (he34.tmp 35 _ rfl) _ (he34.tmp 38 _ rfl)) (fun a35 he35 => ?_)
    clear he34
    refine wl_val he35 rfl rfl (.bool false) (rn_move _ (Or.inl rfl) _ (he35.tmp 39 _ rfl)) (fun a36 he36 => ?_)
    clear he35
    refine wl_val he36 rfl (wanted_slot he36 8 false rfl 40 rfl false rfl true rfl) (.int .i64 ((ofM f x1.L.length x1.came).1)) (rn_move _ (Or.inl rfl) _ (he36.tmp 5 _ rfl)) (fun a37 he37 => ?_)
    clear he36
    refine wl_val he37 rfl (wanted_slot he37 8 false rfl 40 rfl false rfl true rfl) (.bool false) (rn_bin _ _ _ _ _ rfl .i64 _ _ (he37.tmp 41 _ rfl) rfl (.bool (decide ((ofM f x1.L.length x1.came).1 < 0))) _ rfl (congrArg Value.bool (hneg))) (fun a38 he38 => ?_)
    clear he37
    refine wl_val he38 rfl rfl (.bool false) (rn_pickF _ _ _ rfl (he38.tmp 40 _ rfl) _ (he38.tmp 42 _ rfl)) (fun a39 he39 => ?_)
    clear he38
    refine wl_end ?_
    refine wp_condF (he := he39) rfl ?_
    refine wp_skip ?_
    refine then_normal ?_
    refine wp_seq ?_
    refine wp_seqR ?_
    refine wl_val he39 rfl rfl (.int .i64 (0)) (rn_move _ (Or.inr rfl) _ rfl) (fun a40 he40 => ?_)
    clear he39
    refine wl_end ?_
    refine wp_block ?_
    refine wp_loopN (fun mz az wz => ∃ (i : Nat), mz = x1.L.length - (i) ∧ (i ≤ x1.L.length ∧ ∀ j, j < i → holdsR (f j) x1.came = false) ∧ EV az 115 [] [(0, .slice (a) (len) (cap)), (12, .slice (a) (len) (cap)), (13, .int .i64 (((len : Nat) : Int))), (14, .bool false), (16, .slice (a) (len) (cap)), (17, .tuple #[.slice (some ⟨b1, 0, none⟩) (x1.L.length) (x1.cap), .string (x1.came)]), (15, .tuple #[.slice (some ⟨b1, 0, none⟩) (x1.L.length) (x1.cap), .string (x1.came)]), (18, .slice (some ⟨b1, 0, none⟩) (x1.L.length) (x1.cap)), (19, .string (x1.came)), (3, .slice (some ⟨b1, 0, none⟩) (x1.L.length) (x1.cap)), (4, .string (x1.came)), (21, .slice (some ⟨b1, 0, none⟩) (x1.L.length) (x1.cap)), (22, .string (x1.came)), (23, .tuple #[.int .i64 ((ofM f x1.L.length x1.came).1), .int .i64 ((ofM f x1.L.length x1.came).2)]), (20, .tuple #[.int .i64 ((ofM f x1.L.length x1.came).1), .int .i64 ((ofM f x1.L.length x1.came).2)]), (24, .int .i64 ((ofM f x1.L.length x1.came).1)), (25, .int .i64 ((ofM f x1.L.length x1.came).2)), (5, .int .i64 ((ofM f x1.L.length x1.came).1)), (6, .int .i64 ((ofM f x1.L.length x1.came).2)), (27, .slice (some ⟨b1, 0, none⟩) (x1.L.length) (x1.cap)), (28, .string (x1.came)), (29, .tuple #[.int .i64 ((ofM f x1.L.length x1.came).1), .int .i64 ((ofM f x1.L.length x1.came).2)]), (26, .tuple #[.int .i64 ((ofM f x1.L.length x1.came).1), .int .i64 ((ofM f x1.L.length x1.came).2)]), (30, .int .i64 ((ofM f x1.L.length x1.came).1)), (31, .int .i64 ((ofM f x1.L.length x1.came).2)), (7, .int .i64 ((ofM f x1.L.length x1.came).1)), (8, .int .i64 ((ofM f x1.L.length x1.came).2)), (32, .int .i64 ((ofM f x1.L.length x1.came).1)), (33, .int .i64 ((ofM f x1.L.length x1.came).1)), (34, .bool false), (35, .bool false), (36, .int .i64 ((ofM f x1.L.length x1.came).2)), (37, .int .i64 ((ofM f x1.L.length x1.came).2)), (38, .bool false), (39, .bool false), (40, .bool false), (41, .int .i64 ((ofM f x1.L.length x1.came).1)), (42, .bool false), (43, .bool false), (9, .int .i64 (((i : Nat) : Int)))] ∧ MM [] w wz [(1, ⟨true, b1, 30, x1.cur⟩)]) ⟨_, 0, rfl, ⟨by omega, fun j hj => by omega⟩, he40.sub _ ⟨rfl, rfl, rfl, rfl, rfl, rfl, rfl, rfl, rfl, rfl, rfl, rfl, rfl, rfl, rfl, rfl, rfl, rfl, rfl, rfl, rfl, rfl, rfl, rfl, rfl, rfl, rfl, rfl, rfl, rfl, rfl, rfl, rfl, rfl, rfl, rfl, rfl, rfl, rfl, rfl, trivial⟩, hm3.sub _ ⟨rfl, trivial⟩⟩ ?_
    rintro mz1 a41 w4 ⟨i, rfl, hrel1, he41, hm4⟩
    clear he40 hm3
    have hrel1a := hrel1.1
    refine wp_seq ?_
    refine wp_seqR ?_
    refine wl_val he41 rfl rfl (.int .i64 (((i : Nat) : Int))) (rn_move _ (Or.inl rfl) _ (he41.tmp 9 _ rfl)) (fun a42 he42 => ?_)
    clear he41
    refine wl_val he42 rfl rfl (.slice (some ⟨b1, 0, none⟩) (x1.L.length) (x1.cap)) (rn_move _ (Or.inl rfl) _ (he42.tmp 3 _ rfl)) (fun a43 he43 => ?_)
    clear he42
    refine wl_val he43 rfl rfl (.int .i64 (((x1.L.length : Nat) : Int))) (rn_builtin _ _ _ rfl #[.slice (some ⟨b1, 0, none⟩) (x1.L.length) (x1.cap)] (map1 (he43.tmp 53 _ rfl)) (.int .i64 (((x1.L.length : Nat) : Int))) (by kernel_rfl)) (fun a44 he44 => ?_)
    clear he43
    cases hd3 : (decide (((i : Nat) : Int) < ((x1.L.length : Nat) : Int)))
    ·
     have hof := ofM_end (s := x1.came) (n := x1.L.length) hok hs12 fun j hj => hrel1.2 j (by have := of_decide_eq_false hd3; omega)
     have g1 : ((ofM f x1.L.length x1.came).1 == 1) = true := by rw [hof]; rfl
     have g2 : ((ofM f x1.L.length x1.came).2 == 0) = true := by rw [hof]; rfl
     have hd3p := of_decide_eq_false hd3
     refine wl_val he44 rfl rfl (.bool false) (rn_bin _ _ _ _ _ rfl .i64 _ _ (he44.tmp 52 _ rfl) (he44.tmp 54 _ rfl) (.bool (decide (((i : Nat) : Int) < ((x1.L.length : Nat) : Int)))) _ rfl (congrArg Value.bool (hd3))) (fun a45 he45 => ?_)
     clear he44
     refine wl_end ?_
     refine wp_condF (he := he45) rfl ?_
     refine wp_exit ?_
     refine exit_then ?_
     refine exit_then ?_
     refine exit_here ?_
     refine then_normal ?_
     refine wp_seqR ?_
     refine wl_val he45 rfl rfl (.int .i64 ((ofM f x1.L.length x1.came).1)) (rn_move _ (Or.inl rfl) _ (he45.tmp 5 _ rfl)) (fun a46 he46 => ?_)
     clear he45
     refine wl_val he46 rfl rfl (.bool true) (rn_bin _ _ _ _ _ rfl .i64 _ _ (he46.tmp 109 _ rfl) rfl (.bool (((ofM f x1.L.length x1.came).1 == 1))) _ rfl (congrArg Value.bool (g1))) (fun a47 he47 => ?_)
     clear he46
     refine wl_val he47 rfl rfl (.bool true) (rn_move _ (Or.inl rfl) _ (he47.tmp 110 _ rfl)) (fun a48 he48 => ?_)
     clear he47
     refine wl_val he48 rfl (wanted_slot he48 2 true rfl 111 rfl true rfl true rfl) (.int .i64 ((ofM f x1.L.length x1.came).2)) (rn_move _ (Or.inl rfl) _ (he48.tmp 6 _ rfl)) (fun a49 he49 => ?_)
     clear he48
     refine wl_val he49 rfl (wanted_slot he49 2 true rfl 111 rfl true rfl true rfl) (.bool true) (rn_bin _ _ _ _ _ rfl .i64 _ _ (he49.tmp 112 _ rfl) rfl (.bool (((ofM f x1.L.length x1.came).2 == 0))) _ rfl (congrArg Value.bool (g2))) (fun a50 he50 => ?_)
     clear he49
     refine wl_val he50 rfl rfl (.bool true) (rn_pickT _ _ _ rfl (he50.tmp 111 _ rfl) _ (he50.tmp 113 _ rfl)) (fun a51 he51 => ?_)
     clear he50
     refine wl_val he51 rfl rfl (.bool true) (rn_move _ (Or.inr rfl) _ (he51.tmp 114 _ rfl)) (fun a52 he52 => ?_)
     clear he51
     refine wl_end ?_
     refine wp_ret ?_
     exact bodyPost_ret (results_tmp he52 _ Try.results3 _ rfl) he52.defers ⟨rfl, hm4.below⟩
    ·
     have hd3p := of_decide_eq_true hd3
     refine wl_val he44 rfl rfl (.bool true) (rn_bin _ _ _ _ _ rfl .i64 _ _ (he44.tmp 52 _ rfl) (he44.tmp 54 _ rfl) (.bool (decide (((i : Nat) : Int) < ((x1.L.length : Nat) : Int)))) _ rfl (congrArg Value.bool (hd3))) (fun a45 he45 => ?_)
     clear he44
     refine wl_end ?_
     refine wp_condT (he := he45) rfl ?_
     refine wp_skip ?_
     refine then_normal ?_
     refine wp_seq ?_
     refine wp_block ?_
     refine wp_seqR ?_
     refine wl_val he45 rfl rfl (.slice (some ⟨b1, 0, none⟩) (x1.L.length) (x1.cap)) (rn_move _ (Or.inl rfl) _ (he45.tmp 3 _ rfl)) (fun a46 he46 => ?_)
     clear he45
     refine wl_val he46 rfl rfl (.int .i64 (((i : Nat) : Int))) (rn_move _ (Or.inl rfl) _ (he46.tmp 9 _ rfl)) (fun a47 he47 => ?_)
     clear he46
     refine wl_val he47 rfl rfl (.slice (some ⟨b1, 0, none⟩) (i) (x1.cap)) (rn_slc _ _ _ rfl _ _ (.slice (some ⟨b1, 0, none⟩) (i) (x1.cap)) (he47.tmp 59 _ rfl) (he47.tmp 60 _ rfl) (run_slc Try.underlying23 b1 0 x1.L.length x1.cap i 5 (fun w => by kernel_rfl) (by omega))) (fun a48 he48 => ?_)
     clear he47
     refine wl_val he48 rfl rfl (.string (x1.came)) (rn_move _ (Or.inl rfl) _ (he48.tmp 4 _ rfl)) (fun a49 he49 => ?_)
     clear he48
     refine wl_call he49 hm4 rfl rfl _ #[.slice (some ⟨b1, 0, none⟩) (i) (x1.cap), .string (x1.came)] (enter_call _ _ _ rfl 6 #[] #[] rfl #[.slice (some ⟨b1, 0, none⟩) (i) (x1.cap), .string (x1.came)] (map2 (he49.tmp 61 _ rfl) (he49.tmp 62 _ rfl)) #[.slice (some ⟨b1, 0, none⟩) (i) (x1.cap), .string (x1.came)] rfl (fun _ _ => by kernel_rfl)) (.tuple #[.int .i64 ((ofM f i x1.came).1), .int .i64 ((ofM f i x1.came).2)]) (c_Of f b1 0 i x1.cap x1.came _ (hRow _ i (by omega) (hm4.bx 1 _ _ _ _ rfl)) (by omega)) (fun a50 w5 he50 hm5 => ?_)
     clear he49 hm4
     refine wl_val he50 rfl rfl (.tuple #[.int .i64 ((ofM f i x1.came).1), .int .i64 ((ofM f i x1.came).2)]) (rn_move _ (Or.inl rfl) _ (he50.tmp 63 _ rfl)) (fun a51 he51 => ?_)
     clear he50
     refine wl_val he51 rfl rfl (.int .i64 ((ofM f i x1.came).1)) (rn_extract _ _ rfl _ (he51.tmp 58 _ rfl) _ rfl) (fun a52 he52 => ?_)
     clear he51
     refine wl_val he52 rfl rfl (.int .i64 ((ofM f i x1.came).2)) (rn_extract _ _ rfl _ (he52.tmp 58 _ rfl) _ rfl) (fun a53 he53 => ?_)
     clear he52
     refine wl_val he53 rfl rfl (.int .i64 ((ofM f i x1.came).1)) (rn_move _ (Or.inr rfl) _ (he53.tmp 64 _ rfl)) (fun a54 he54 => ?_)
     clear he53
     refine wl_val he54 rfl rfl (.int .i64 ((ofM f i x1.came).2)) (rn_move _ (Or.inr rfl) _ (he54.tmp 65 _ rfl)) (fun a55 he55 => ?_)
     clear he54
     refine wl_end ?_
     refine wp_seq ?_
     refine wh_begin (by kernel_rfl) hm5 [(1, ⟨true, b1, 30, x1.cur⟩)] ⟨rfl, trivial⟩ (fun w6 hm6 => ?_)
     clear hm5
     refine tk (fuel := 18) (i := 0) ?_ he55 hm6 ⟨rfl, trivial⟩ (.slice (some ⟨b1, 0, none⟩) (x1.L.length) (x1.cap)) ?_ ?_ ?_ ?_ fun a56 he56 => ?_
     rotate_left
     rw [List.getElem?_toArray]; rfl
     exact ⟨by kernel_rfl, by kernel_rfl, by kernel_rfl⟩
     exact ⟨fun _ _ _ _ h => h, rfl, rfl⟩
     exact fun wS hmS => rn_move _ (Or.inl rfl) _ (he55.tmp 3 _ rfl)
     clear he55
     refine tk (fuel := 17) (i := 1) ?_ he56 hm6 ⟨rfl, trivial⟩ (.int .i64 (((i : Nat) : Int))) ?_ ?_ ?_ ?_ fun a57 he57 => ?_
     rotate_left
     rw [List.getElem?_toArray]; rfl
     exact ⟨by kernel_rfl, by kernel_rfl, by kernel_rfl⟩
     exact ⟨fun _ _ _ _ h => h, rfl, rfl⟩
     exact fun wS hmS => rn_move _ (Or.inl rfl) _ (he56.tmp 9 _ rfl)
     clear he56
     refine tk (fuel := 16) (i := 2) ?_ he57 hm6 ⟨rfl, trivial⟩ (.pointer (some ⟨b1, 0 + i * 5, none⟩)) ?_ ?_ ?_ ?_ fun a58 he58 => ?_
     rotate_left
     rw [List.getElem?_toArray]; rfl
     exact ⟨by kernel_rfl, by kernel_rfl, by kernel_rfl⟩
     exact ⟨fun _ _ _ _ h => h, rfl, rfl⟩
     exact fun wS hmS => rn_indexA _ _ _ rfl _ _ (.pointer (some ⟨b1, 0 + i * 5, none⟩)) (he57.tmp 66 _ rfl) (he57.tmp 67 _ rfl) (ixS 30 5 (by kernel_rfl) (fun w => by kernel_rfl) (b1) (0) (x1.L.length) (x1.cap) (i) (by omega) _)
     clear he57
     refine tk (fuel := 15) (i := 3) ?_ he58 hm6 ⟨rfl, trivial⟩ (.pointer (some ⟨b1, 0 + i * 5 + 1, none⟩)) ?_ ?_ ?_ ?_ fun a59 he59 => ?_
     rotate_left
     rw [List.getElem?_toArray]; rfl
     exact ⟨by kernel_rfl, by kernel_rfl, by kernel_rfl⟩
     exact ⟨fun _ _ _ _ h => h, rfl, rfl⟩
     exact fun wS hmS => rn_field _ _ _ rfl _ (.pointer (some ⟨b1, 0 + i * 5 + 1, none⟩)) (he58.tmp 68 _ rfl) (by kernel_rfl)
     clear he58
     refine tk (fuel := 14) (i := 4) ?_ he59 hm6 ⟨rfl, trivial⟩ (.int .i64 ((f i).op)) ?_ ?_ ?_ ?_ fun a60 he60 => ?_
     rotate_left
     rw [List.getElem?_toArray]; rfl
     exact ⟨by kernel_rfl, by kernel_rfl, by kernel_rfl⟩
     exact ⟨fun _ _ _ _ h => h, rfl, rfl⟩
     exact fun wS hmS => rn_load1 hmS 1 rfl _ _ rfl (0 + i * 5 + 1) (he59.tmp 69 _ rfl) one3 _ (hcell i 1 (by omega) (by omega))
     clear he59
     refine tk (fuel := 13) (i := 5) ?_ he60 hm6 ⟨rfl, trivial⟩ (.string (x1.came)) ?_ ?_ ?_ ?_ fun a61 he61 => ?_
     rotate_left
     rw [List.getElem?_toArray]; rfl
     exact ⟨by kernel_rfl, by kernel_rfl, by kernel_rfl⟩
     exact ⟨fun _ _ _ _ h => h, rfl, rfl⟩
     exact fun wS hmS => rn_move _ (Or.inl rfl) _ (he60.tmp 4 _ rfl)
     clear he60
     refine tk (fuel := 12) (i := 6) ?_ he61 hm6 ⟨rfl, trivial⟩ (.slice (some ⟨b1, 0, none⟩) (x1.L.length) (x1.cap)) ?_ ?_ ?_ ?_ fun a62 he62 => ?_
     rotate_left
     rw [List.getElem?_toArray]; rfl
     exact ⟨by kernel_rfl, by kernel_rfl, by kernel_rfl⟩
     exact ⟨fun _ _ _ _ h => h, rfl, rfl⟩
     exact fun wS hmS => rn_move _ (Or.inl rfl) _ (he61.tmp 3 _ rfl)
     clear he61
     refine tk (fuel := 11) (i := 7) ?_ he62 hm6 ⟨rfl, trivial⟩ (.int .i64 (((i : Nat) : Int))) ?_ ?_ ?_ ?_ fun a63 he63 => ?_
     rotate_left
     rw [List.getElem?_toArray]; rfl
     exact ⟨by kernel_rfl, by kernel_rfl, by kernel_rfl⟩
     exact ⟨fun _ _ _ _ h => h, rfl, rfl⟩
     exact fun wS hmS => rn_move _ (Or.inl rfl) _ (he62.tmp 9 _ rfl)
     clear he62
     refine tk (fuel := 10) (i := 8) ?_ he63 hm6 ⟨rfl, trivial⟩ (.pointer (some ⟨b1, 0 + i * 5, none⟩)) ?_ ?_ ?_ ?_ fun a64 he64 => ?_
     rotate_left
     rw [List.getElem?_toArray]; rfl
     exact ⟨by kernel_rfl, by kernel_rfl, by kernel_rfl⟩
     exact ⟨fun _ _ _ _ h => h, rfl, rfl⟩
     exact fun wS hmS => rn_indexA _ _ _ rfl _ _ (.pointer (some ⟨b1, 0 + i * 5, none⟩)) (he63.tmp 72 _ rfl) (he63.tmp 73 _ rfl) (ixS 30 5 (by kernel_rfl) (fun w => by kernel_rfl) (b1) (0) (x1.L.length) (x1.cap) (i) (by omega) _)
     clear he63
     refine tk (fuel := 9) (i := 9) ?_ he64 hm6 ⟨rfl, trivial⟩ (.pointer (some ⟨b1, 0 + i * 5, none⟩)) ?_ ?_ ?_ ?_ fun a65 he65 => ?_
     rotate_left
     rw [List.getElem?_toArray]; rfl
     exact ⟨by kernel_rfl, by kernel_rfl, by kernel_rfl⟩
     exact ⟨fun _ _ _ _ h => h, rfl, rfl⟩
     exact fun wS hmS => rn_field _ _ _ rfl _ (.pointer (some ⟨b1, 0 + i * 5, none⟩)) (he64.tmp 74 _ rfl) (by kernel_rfl)
     clear he64
     refine tk (fuel := 8) (i := 10) ?_ he65 hm6 ⟨rfl, trivial⟩ (.int .i64 ((((f i).at_.toNat : Nat) : Int))) ?_ ?_ ?_ ?_ fun a66 he66 => ?_
     rotate_left
     rw [List.getElem?_toArray]; rfl
     exact ⟨by kernel_rfl, by kernel_rfl, by kernel_rfl⟩
     exact ⟨fun _ _ _ _ h => h, rfl, rfl⟩
     exact fun wS hmS => rn_load1 hmS 1 rfl _ _ rfl (0 + i * 5) (he65.tmp 75 _ rfl) one3 _ ((hcell i 0 (by omega) (by omega)).trans (Ru.g_at _ (hall i (by omega))))
     clear he65
     refine tk (fuel := 7) (i := 11) ?_ he66 hm6 ⟨rfl, trivial⟩ (.int .u8 (((byteAt (x1.came) ((f i).at_.toNat) : Nat) : Int))) ?_ ?_ ?_ ?_ fun a67 he67 => ?_
     rotate_left
     rw [List.getElem?_toArray]; rfl
     exact ⟨by kernel_rfl, by kernel_rfl, by kernel_rfl⟩
     exact ⟨fun _ _ _ _ h => h, rfl, rfl⟩
     exact fun wS hmS => rn_sbyte _ (by kernel_rfl) _ _ rfl _ ((f i).at_.toNat) (he66.tmp 71 _ rfl) (he66.tmp 76 _ rfl) (at_lt (hall i (by omega)) hs12)
     clear he66
     refine tk (fuel := 6) (i := 12) ?_ he67 hm6 ⟨rfl, trivial⟩ (.int .i64 (((byteAt (x1.came) ((f i).at_.toNat) : Nat) : Int))) ?_ ?_ ?_ ?_ fun a68 he68 => ?_
     rotate_left
     rw [List.getElem?_toArray]; rfl
     exact ⟨by kernel_rfl, by kernel_rfl, by kernel_rfl⟩
     exact ⟨fun _ _ _ _ h => h, rfl, rfl⟩
     exact fun wS hmS => rn_conv _ _ _ rfl _ (.int .i64 (IntKind.i64.wrap (((byteAt (x1.came) ((f i).at_.toNat) : Nat) : Int)))) _ (he67.tmp 77 _ rfl) (by kernel_rfl) (cvn (n := byteAt (x1.came) ((f i).at_.toNat)) (by first | omega | exact Nat.le_trans (Nat.le_of_lt (byteAt_lt _ _)) (by decide)))
     clear he67
     refine tk (fuel := 5) (i := 13) ?_ he68 hm6 ⟨rfl, trivial⟩ (.slice (some ⟨b1, 0, none⟩) (x1.L.length) (x1.cap)) ?_ ?_ ?_ ?_ fun a69 he69 => ?_
     rotate_left
     rw [List.getElem?_toArray]; rfl
     exact ⟨by kernel_rfl, by kernel_rfl, by kernel_rfl⟩
     exact ⟨fun _ _ _ _ h => h, rfl, rfl⟩
     exact fun wS hmS => rn_move _ (Or.inl rfl) _ (he68.tmp 3 _ rfl)
     clear he68
     refine tk (fuel := 4) (i := 14) ?_ he69 hm6 ⟨rfl, trivial⟩ (.int .i64 (((i : Nat) : Int))) ?_ ?_ ?_ ?_ fun a70 he70 => ?_
     rotate_left
     rw [List.getElem?_toArray]; rfl
     exact ⟨by kernel_rfl, by kernel_rfl, by kernel_rfl⟩
     exact ⟨fun _ _ _ _ h => h, rfl, rfl⟩
     exact fun wS hmS => rn_move _ (Or.inl rfl) _ (he69.tmp 9 _ rfl)
     clear he69
     refine tk (fuel := 3) (i := 15) ?_ he70 hm6 ⟨rfl, trivial⟩ (.pointer (some ⟨b1, 0 + i * 5, none⟩)) ?_ ?_ ?_ ?_ fun a71 he71 => ?_
     rotate_left
     rw [List.getElem?_toArray]; rfl
     exact ⟨by kernel_rfl, by kernel_rfl, by kernel_rfl⟩
     exact ⟨fun _ _ _ _ h => h, rfl, rfl⟩
     exact fun wS hmS => rn_indexA _ _ _ rfl _ _ (.pointer (some ⟨b1, 0 + i * 5, none⟩)) (he70.tmp 79 _ rfl) (he70.tmp 80 _ rfl) (ixS 30 5 (by kernel_rfl) (fun w => by kernel_rfl) (b1) (0) (x1.L.length) (x1.cap) (i) (by omega) _)
     clear he70
     refine tk (fuel := 2) (i := 16) ?_ he71 hm6 ⟨rfl, trivial⟩ (.pointer (some ⟨b1, 0 + i * 5 + 2, none⟩)) ?_ ?_ ?_ ?_ fun a72 he72 => ?_
     rotate_left
     rw [List.getElem?_toArray]; rfl
     exact ⟨by kernel_rfl, by kernel_rfl, by kernel_rfl⟩
     exact ⟨fun _ _ _ _ h => h, rfl, rfl⟩
     exact fun wS hmS => rn_field _ _ _ rfl _ (.pointer (some ⟨b1, 0 + i * 5 + 2, none⟩)) (he71.tmp 81 _ rfl) (by kernel_rfl)
     clear he71
     refine tk (fuel := 1) (i := 17) ?_ he72 hm6 ⟨rfl, trivial⟩ (.int .i64 ((f i).num)) ?_ ?_ ?_ ?_ fun a73 he73 => ?_
     rotate_left
     rw [List.getElem?_toArray]; rfl
     exact ⟨by kernel_rfl, by kernel_rfl, by kernel_rfl⟩
     exact ⟨fun _ _ _ _ h => h, rfl, rfl⟩
     exact fun wS hmS => rn_load1 hmS 1 rfl _ _ rfl (0 + i * 5 + 2) (he72.tmp 82 _ rfl) one3 _ (hcell i 2 (by omega) (by omega))
     clear he72
     cases hd4 : (holdsR (f i) x1.came)
     ·
      refine wh_call (i := 18) (op := ?op1d0110_18) (fuel := 0) ?hr1d0110_18 ?hi1d0110_18 he73 hm6 ⟨rfl, trivial⟩ ?hd1d0110_18 ?hw1d0110_18 _ #[.int .i64 ((f i).op), .int .i64 (((byteAt (x1.came) ((f i).at_.toNat) : Nat) : Int)), .int .i64 ((f i).num)] ?en1d0110_18 (.bool false) (callsV (congrArg Value.bool (hd4)) (c_HoldsR _ _ _ (hall i (by omega)))) (fun a74 w7 he74 hm7 => ?k1d0110_18)
      case hi1d0110_18 => rw [List.getElem?_toArray]; rfl
      case hw1d0110_18 => exact rfl
      case hr1d0110_18 => kernel_rfl
      case hd1d0110_18 => rfl
      case en1d0110_18 => exact (enter_call _ _ _ rfl 8 #[] #[] rfl #[.int .i64 ((f i).op), .int .i64 (((byteAt (x1.came) ((f i).at_.toNat) : Nat) : Int)), .int .i64 ((f i).num)] (map3 (he73.tmp 70 _ rfl) (he73.tmp 78 _ rfl) (he73.tmp 83 _ rfl)) #[.int .i64 ((f i).op), .int .i64 (((byteAt (x1.came) ((f i).at_.toNat) : Nat) : Int)), .int .i64 ((f i).num)] rfl (fun _ _ => by kernel_rfl))
      clear he73 hm6
      refine wpAnyH_done (by kernel_rfl) ?_ _
      refine then_normal ?_
      refine wp_condF (he := he74) rfl ?_
      refine wp_skip ?_
      refine in_normal ?_
      refine then_normal ?_
      refine wp_region_lit ?_
      refine wl_val he74 rfl rfl (.int .i64 (((i : Nat) : Int))) (rn_move _ (Or.inl rfl) _ (he74.tmp 9 _ rfl)) (fun a75 he75 => ?_)
      clear he74
      refine wl_val he75 rfl rfl (.int .i64 (((i + 1 : Nat) : Int))) (rn_bin _ _ _ _ _ rfl .i64 _ _ (he75.tmp 56 _ rfl) rfl (.int .i64 (IntKind.wrap .i64 (((i : Nat) : Int) + 1))) _ rfl (addN (i := i) (c := 1) (by omega))) (fun a76 he76 => ?_)
      clear he75
      refine wl_val he76 rfl rfl (.int .i64 (((i + 1 : Nat) : Int))) (rn_move _ (Or.inr rfl) _ (he76.tmp 57 _ rfl)) (fun a77 he77 => ?_)
      clear he76
      refine wpList_nil ?_
      exact ⟨x1.L.length - (i + 1), by omega, i + 1, rfl, ⟨by omega, fun j hj => by rcases Nat.lt_or_ge j i with hh | hh; exact hrel1.2 j hh; rw [show j = i by omega]; assumption⟩, he77.sub _ ⟨rfl, rfl, rfl, rfl, rfl, rfl, rfl, rfl, rfl, rfl, rfl, rfl, rfl, rfl, rfl, rfl, rfl, rfl, rfl, rfl, rfl, rfl, rfl, rfl, rfl, rfl, rfl, rfl, rfl, rfl, rfl, rfl, rfl, rfl, rfl, rfl, rfl, rfl, rfl, rfl, trivial⟩, hm7.sub _ ⟨rfl, trivial⟩⟩
     ·
      have hof := ofM_hit (s := x1.came) hok hs12 (by omega : i < x1.L.length) hrel1.2 hd4
      have hofi := ofM_end (s := x1.came) (ruOks_pre hok (by omega : i ≤ x1.L.length)) hs12 hrel1.2
      have g1 : ((ofM f x1.L.length x1.came).1 == (f i).ver) = true := by rw [hof]; simp
      have g2 : ((ofM f x1.L.length x1.came).2 == (f i).key) = true := by rw [hof]; simp
      have g3 : ((ofM f i x1.came).1 == 1) = true := by rw [hofi]; rfl
      have g4 : ((ofM f i x1.came).2 == 0) = true := by rw [hofi]; rfl
      refine wh_call (i := 18) (op := ?op1d0111_18) (fuel := 0) ?hr1d0111_18 ?hi1d0111_18 he73 hm6 ⟨rfl, trivial⟩ ?hd1d0111_18 ?hw1d0111_18 _ #[.int .i64 ((f i).op), .int .i64 (((byteAt (x1.came) ((f i).at_.toNat) : Nat) : Int)), .int .i64 ((f i).num)] ?en1d0111_18 (.bool true) (callsV (congrArg Value.bool (hd4)) (c_HoldsR _ _ _ (hall i (by omega)))) (fun a74 w7 he74 hm7 => ?k1d0111_18)
      case hi1d0111_18 => rw [List.getElem?_toArray]; rfl
      case hw1d0111_18 => exact rfl
      case hr1d0111_18 => kernel_rfl
      case hd1d0111_18 => rfl
      case en1d0111_18 => exact (enter_call _ _ _ rfl 8 #[] #[] rfl #[.int .i64 ((f i).op), .int .i64 (((byteAt (x1.came) ((f i).at_.toNat) : Nat) : Int)), .int .i64 ((f i).num)] (map3 (he73.tmp 70 _ rfl) (he73.tmp 78 _ rfl) (he73.tmp 83 _ rfl)) #[.int .i64 ((f i).op), .int .i64 (((byteAt (x1.came) ((f i).at_.toNat) : Nat) : Int)), .int .i64 ((f i).num)] rfl (fun _ _ => by kernel_rfl))
      clear he73 hm6
      refine wpAnyH_done (by kernel_rfl) ?_ _
      refine then_normal ?_
      refine wp_condT (he := he74) rfl ?_
      refine wp_seqR ?_
      refine wl_val he74 rfl rfl (.int .i64 ((ofM f x1.L.length x1.came).1)) (rn_move _ (Or.inl rfl) _ (he74.tmp 5 _ rfl)) (fun a75 he75 => ?_)
      clear he74
      refine wl_val he75 rfl rfl (.slice (some ⟨b1, 0, none⟩) (x1.L.length) (x1.cap)) (rn_move _ (Or.inl rfl) _ (he75.tmp 3 _ rfl)) (fun a76 he76 => ?_)
      clear he75
      refine wl_val he76 rfl rfl (.int .i64 (((i : Nat) : Int))) (rn_move _ (Or.inl rfl) _ (he76.tmp 9 _ rfl)) (fun a77 he77 => ?_)
      clear he76
      refine wl_val he77 rfl rfl (.pointer (some ⟨b1, 0 + i * 5, none⟩)) (rn_indexA _ _ _ rfl _ _ (.pointer (some ⟨b1, 0 + i * 5, none⟩)) (he77.tmp 86 _ rfl) (he77.tmp 87 _ rfl) (ixS 30 5 (by kernel_rfl) (fun w => by kernel_rfl) (b1) (0) (x1.L.length) (x1.cap) (i) (by omega) _)) (fun a78 he78 => ?_)
      clear he77
      refine wl_val he78 rfl rfl (.pointer (some ⟨b1, 0 + i * 5 + 3, none⟩)) (rn_field _ _ _ rfl _ (.pointer (some ⟨b1, 0 + i * 5 + 3, none⟩)) (he78.tmp 88 _ rfl) (by kernel_rfl)) (fun a79 he79 => ?_)
      clear he78
      refine wl_val he79 rfl rfl (.int .i64 ((f i).ver)) (rn_load1 hm7 1 rfl _ _ rfl (0 + i * 5 + 3) (he79.tmp 89 _ rfl) one3 _ (hcell i 3 (by omega) (by omega))) (fun a80 he80 => ?_)
      clear he79
      refine wl_val he80 rfl rfl (.bool true) (rn_bin _ _ _ _ _ rfl .i64 _ _ (he80.tmp 85 _ rfl) (he80.tmp 90 _ rfl) (.bool (((ofM f x1.L.length x1.came).1 == (f i).ver))) _ rfl (congrArg Value.bool (g1))) (fun a81 he81 => ?_)
      clear he80
      refine wl_val he81 rfl rfl (.bool true) (rn_move _ (Or.inl rfl) _ (he81.tmp 91 _ rfl)) (fun a82 he82 => ?_)
      clear he81
      refine wl_val he82 rfl (wanted_slot he82 7 true rfl 92 rfl true rfl true rfl) (.int .i64 ((ofM f x1.L.length x1.came).2)) (rn_move _ (Or.inl rfl) _ (he82.tmp 6 _ rfl)) (fun a83 he83 => ?_)
      clear he82
      refine wl_val he83 rfl (wanted_slot he83 7 true rfl 92 rfl true rfl true rfl) (.slice (some ⟨b1, 0, none⟩) (x1.L.length) (x1.cap)) (rn_move _ (Or.inl rfl) _ (he83.tmp 3 _ rfl)) (fun a84 he84 => ?_)
      clear he83
      refine wl_val he84 rfl (wanted_slot he84 7 true rfl 92 rfl true rfl true rfl) (.int .i64 (((i : Nat) : Int))) (rn_move _ (Or.inl rfl) _ (he84.tmp 9 _ rfl)) (fun a85 he85 => ?_)
      clear he84
      refine wl_val he85 rfl (wanted_slot he85 7 true rfl 92 rfl true rfl true rfl) (.pointer (some ⟨b1, 0 + i * 5, none⟩)) (rn_indexA _ _ _ rfl _ _ (.pointer (some ⟨b1, 0 + i * 5, none⟩)) (he85.tmp 94 _ rfl) (he85.tmp 95 _ rfl) (ixS 30 5 (by kernel_rfl) (fun w => by kernel_rfl) (b1) (0) (x1.L.length) (x1.cap) (i) (by omega) _)) (fun a86 he86 => ?_)
      clear he85
      refine wl_val he86 rfl (wanted_slot he86 7 true rfl 92 rfl true rfl true rfl) (.pointer (some ⟨b1, 0 + i * 5 + 4, none⟩)) (rn_field _ _ _ rfl _ (.pointer (some ⟨b1, 0 + i * 5 + 4, none⟩)) (he86.tmp 96 _ rfl) (by kernel_rfl)) (fun a87 he87 => ?_)
      clear he86
      refine wl_val he87 rfl (wanted_slot he87 7 true rfl 92 rfl true rfl true rfl) (.int .i64 ((f i).key)) (rn_load1 hm7 1 rfl _ _ rfl (0 + i * 5 + 4) (he87.tmp 97 _ rfl) one3 _ (hcell i 4 (by omega) (by omega))) (fun a88 he88 => ?_)
      clear he87
      refine wl_val he88 rfl (wanted_slot he88 7 true rfl 92 rfl true rfl true rfl) (.bool true) (rn_bin _ _ _ _ _ rfl .i64 _ _ (he88.tmp 93 _ rfl) (he88.tmp 98 _ rfl) (.bool (((ofM f x1.L.length x1.came).2 == (f i).key))) _ rfl (congrArg Value.bool (g2))) (fun a89 he89 => ?_)
      clear he88
      refine wl_val he89 rfl rfl (.bool true) (rn_pickT _ _ _ rfl (he89.tmp 92 _ rfl) _ (he89.tmp 99 _ rfl)) (fun a90 he90 => ?_)
      clear he89
      refine wl_val he90 rfl rfl (.bool true) (rn_move _ (Or.inl rfl) _ (he90.tmp 100 _ rfl)) (fun a91 he91 => ?_)
      clear he90
      refine wl_val he91 rfl (wanted_slot he91 16 true rfl 101 rfl true rfl true rfl) (.int .i64 ((ofM f i x1.came).1)) (rn_move _ (Or.inl rfl) _ (he91.tmp 10 _ rfl)) (fun a92 he92 => ?_)
      clear he91
      refine wl_val he92 rfl (wanted_slot he92 16 true rfl 101 rfl true rfl true rfl) (.bool true) (rn_bin _ _ _ _ _ rfl .i64 _ _ (he92.tmp 102 _ rfl) rfl (.bool (((ofM f i x1.came).1 == 1))) _ rfl (congrArg Value.bool (g3))) (fun a93 he93 => ?_)
      clear he92
      refine wl_val he93 rfl rfl (.bool true) (rn_pickT _ _ _ rfl (he93.tmp 101 _ rfl) _ (he93.tmp 103 _ rfl)) (fun a94 he94 => ?_)
      clear he93
      refine wl_val he94 rfl rfl (.bool true) (rn_move _ (Or.inl rfl) _ (he94.tmp 104 _ rfl)) (fun a95 he95 => ?_)
      clear he94
      refine wl_val he95 rfl (wanted_slot he95 20 true rfl 105 rfl true rfl true rfl) (.int .i64 ((ofM f i x1.came).2)) (rn_move _ (Or.inl rfl) _ (he95.tmp 11 _ rfl)) (fun a96 he96 => ?_)
      clear he95
      refine wl_val he96 rfl (wanted_slot he96 20 true rfl 105 rfl true rfl true rfl) (.bool true) (rn_bin _ _ _ _ _ rfl .i64 _ _ (he96.tmp 106 _ rfl) rfl (.bool (((ofM f i x1.came).2 == 0))) _ rfl (congrArg Value.bool (g4))) (fun a97 he97 => ?_)
      clear he96
      refine wl_val he97 rfl rfl (.bool true) (rn_pickT _ _ _ rfl (he97.tmp 105 _ rfl) _ (he97.tmp 107 _ rfl)) (fun a98 he98 => ?_)
      clear he97
      refine wl_val he98 rfl rfl (.bool true) (rn_move _ (Or.inr rfl) _ (he98.tmp 108 _ rfl)) (fun a99 he99 => ?_)
      clear he98
      refine wl_end ?_
      refine wp_ret ?_
      refine ret_in ?_
      refine ret_then ?_
      refine ret_then ?_
      refine ret_in ?_
      refine ret_then ?_
      exact bodyPost_ret (results_tmp he99 _ Try.results3 _ rfl) he99.defers ⟨rfl, hm7.below⟩
  ·
   have hd1p := of_decide_eq_true hd1
   refine wl_val he3 rfl rfl (.bool true) (rn_bin _ _ _ _ _ rfl .i64 _ _ (he3.tmp 13 _ rfl) rfl (.bool (decide (((len : Nat) : Int) > 1048576))) _ rfl (congrArg Value.bool (hd1))) (fun a4 he4 => ?_)
   clear he3
   refine wl_end ?_
   refine wp_condT (he := he4) rfl ?_
   refine wp_seqR ?_
   refine wl_val he4 rfl rfl (.bool true) (rn_move _ (Or.inr rfl) _ rfl) (fun a5 he5 => ?_)
   clear he4
   refine wl_end ?_
   refine wp_ret ?_
   refine ret_then ?_
   exact bodyPost_ret (results_tmp he5 _ Try.results3 _ rfl) he5.defers ⟨rfl, hm0.below⟩
end Go.Proofs.Ytkaekiodjjhjkaa.W
