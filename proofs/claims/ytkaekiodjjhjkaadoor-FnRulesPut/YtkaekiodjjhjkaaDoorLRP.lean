/- Rules that are drawn, written and read: the walks of two laws. -/
import Derived.Test.YtkaekiodjjhjkaaDoorNR
import Derived.Test.YtkaekiodjjhjkaaDoorKBR
import Derived.Test.YtkaekiodjjhjkaaDoorDRW
import Derived.Test.YtkaekiodjjhjkaaDoorLSG
import Derived.Test.YtkaekiodjjhjkaaDoorLOK
namespace Go.Proofs.YtkaekiodjjhjkaaDoor
open Go.RowKit
set_option linter.unusedVariables false
set_option linter.unusedSimpArgs false
def ru0 : Ru := ⟨0, 0, 0, 0, 0⟩
theorem rw_owns {W : World} {n0 : Nat} {v : Value} {L : List Ru} (h : W.ownsRow n0 36 5 v L.length (cellsOf Ru.arr L)) (hL : L ≠ []) : ∃ (x : Nat × Array Value) (b : Nat), v = .slice (some ⟨b, 0, none⟩) L.length x.1 ∧ BX W b 36 x.2 ∧ Rw x.2 L.length x.1 5 (cellsOf Ru.arr L) ∧ n0 ≤ b := by
  rcases h.2 with ⟨h1, h2⟩ | ⟨g, cap, cur, h1, hb, hg, h2, h5, h3, h4⟩
  · exact absurd (List.length_eq_zero_iff.1 h2) hL
  · exact ⟨(cap, cur), g, h1, hg, ⟨h2, h5, h3, h4⟩, hb⟩
section
variable (s : ByteArray) (w : World) (hs : s.size ≤ 1048576)
include hs
theorem c_iget_y (hT : TabsRG w) (l : List Ru) (h : getM s = some l) (hne : l ≠ []) : Calls Tryd.prog 10 #[.string s] w fun e w' => NewRuT w l e w' := by
  refine (c_iget s hs w hT).mono ?_
  rintro e w' (⟨h1, _⟩ | ⟨l', h1, v, rfl, hr, hn, hb⟩)
  · rw [h] at h1; cases h1
  · rw [h] at h1; cases h1
    obtain ⟨x, b, rfl, hx, hw, hle⟩ := rw_owns hr hne
    exact ⟨x, b, rfl, hx, hw, hle, hb⟩
theorem c_iget_e (hT : TabsRG w) (h : getM s = some []) : Calls Tryd.prog 10 #[.string s] w fun e w' => e = .returned (.tuple #[.slice none 0 0, .bool true]) ∧ Below w.heap.size w w' := by
  refine (c_iget s hs w hT).mono ?_
  rintro e w' (⟨h1, _⟩ | ⟨l', h1, v, rfl, hr, hn, hb⟩)
  · rw [h] at h1; cases h1
  · rw [h] at h1; cases h1
    exact ⟨by rw [hn rfl], hb⟩
theorem c_iget_n (hT : TabsRG w) (h : getM s = none) : Calls Tryd.prog 10 #[.string s] w fun e w' => e = .returned (.tuple #[.slice none 0 0, .bool false]) ∧ Below w.heap.size w w' := by
  refine (c_iget s hs w hT).mono ?_
  rintro e w' (⟨_, h1⟩ | ⟨l', h1, _⟩)
  · exact h1
  · rw [h] at h1; cases h1
theorem c_spget_e (h : getM s = some []) : Calls Tryd.prog 13 #[.string s] w fun e w' => NewRuT w [] e w' := c_spGet s [] w hs h
theorem c_spget_n (h : getM s = none) : Calls Tryd.prog 13 #[.string s] w fun e w' => e = .returned (.tuple #[.slice none 0 0, .bool false]) ∧ Below w.heap.size w w' := by
  refine (c_spGet0 s w hs).mono ?_
  rintro e w' (⟨_, h1⟩ | ⟨l', h1, _⟩)
  · exact h1
  · rw [h] at h1; cases h1
end
theorem Src.kb {w w' : World} {a : Option Addr} {len : Nat} (h : Src w a len) (k : KB [] w w') : Src w' a len := by
  rcases h with h | ⟨g, off, e, hg, hc⟩
  · exact .inl h
  · refine .inr ⟨g, off, e, Nat.lt_of_lt_of_le hg k.size, fun j hj => ?_⟩
    obtain ⟨v, hv, hx⟩ := hc j hj
    exact ⟨v, hv, by rw [World.cell?_of_block (k.block g hg (by simp))]; exact hx⟩
theorem RS.of {w wk : World} {B : Nat} {a : Option Addr} {n cap p : Nat} (hx : BX wk B 52 (rdA a n cap p)) (hg : w.heap.size ≤ B) (k : KB [] w wk) (hs : Src w a n) (hl : n ≤ 2000) : RS w wk B a n cap p := ⟨hx, hg, k.below, hs, hl⟩
theorem c_open (a : Option Addr) (len cap : Nat) (w : World) (hc : len ≤ cap) (hs : Src w a len) (hl : cap < 2 ^ 63) : Calls Tryd.prog 15 #[.slice a len cap] w fun e w' => NewRow w (fun (x : Nat) b => .pointer (some ⟨b, 0, none⟩)) 52 (fun x => rdA a x cap 0) (fun x => Src w a x ∧ x ≤ 2000) e w' := by
  refine (open_s w a len cap hc hs hl).mono ?_
  rintro e w' ⟨n, rfl, h⟩
  exact ⟨n, w.heap.size, rfl, h.box, ⟨h.src, h.le⟩, Nat.le_refl _, h.bel⟩
structure DpX where
  L : List Ru
  cap : Nat
  cur : Array Value
theorem map_getD (l : List Ru) : (List.range l.length).map (fun i => l.getD i ru0) = l := by
  apply List.ext_getElem
  · simp
  · intro i h1 h2
    simp [List.getD_eq_getElem?_getD, h2]
theorem putR_le {f : Nat → Ru} {n : Nat} (hn : n ≤ 6) : (putR f n).size ≤ 600 := by
  unfold putR
  cases h : ruOks f n
  · show (0 : Nat) ≤ 600; omega
  · have := catR_le (f := f) (i := n) (ruOks_all h).1
    show (catR f n).size ≤ 600
    omega
theorem put_yes {l : List Ru} (ho : ∀ r ∈ l, ruOk r = true) (hl : l.length ≤ 6) : ruOks (fun i => l.getD i ru0) l.length = true := by
  rw [ruOks, ruAll_yes fun j hj => by
    have : l.getD j ru0 = l[j] := by simp [List.getD_eq_getElem?_getD, hj]
    show ruOk (l.getD j ru0) = true
    rw [this]; exact ho _ (List.getElem_mem hj), Bool.true_and]
  exact decide_eq_true (by omega)
theorem put_cat {l : List Ru} (ho : ∀ r ∈ l, ruOk r = true) (hl : l.length ≤ 6) : putR (fun i => l.getD i ru0) l.length = catL l := by
  unfold putR
  rw [if_pos (put_yes ho hl), catR_list, map_getD]
theorem put_get {l : List Ru} (h : ruOks (fun i => l.getD i ru0) l.length = true) : getM (putR (fun i => l.getD i ru0) l.length) = some l := by
  obtain ⟨h1, h2⟩ := ruOks_all h
  have ho : ∀ r ∈ l, ruOk r = true := fun r hr => by
    obtain ⟨i, hi, rfl⟩ := List.getElem_of_mem hr
    have := h1 i hi
    simpa [List.getD_eq_getElem?_getD, hi] using this
  rw [put_cat ho h2]
  exact get_cat ho h2
theorem put_some {l : List Ru} (h : ((putR (fun i => l.getD i ru0) l.length).toList == (⟨#[]⟩ : ByteArray).toList) = false) : ruOks (fun i => l.getD i ru0) l.length = true ∧ l ≠ [] := by
  cases hk : ruOks (fun i => l.getD i ru0) l.length
  · unfold putR at h; rw [hk] at h; simp at h
  · refine ⟨rfl, ?_⟩
    rintro rfl
    unfold putR at h
    rw [hk] at h
    simp [catR] at h
theorem get3 (s : ByteArray) : getM s = none ∨ getM s = some [] ∨ ∃ l, getM s = some l ∧ l ≠ [] := by
  cases h : getM s with
  | none => exact .inl rfl
  | some l =>
    cases l with
    | nil => exact .inr (.inl rfl)
    | cons r l => exact .inr (.inr ⟨_, rfl, by simp⟩)
set_option maxRecDepth 100000 in
set_option maxHeartbeats 4000000 in
theorem c_drawPut (a : Option Addr) (len cap : Nat) (w : World) (hc : len ≤ cap) (hs : Src w a len) (hl : cap < 2 ^ 63) :
    Calls Tryd.prog 5 #[.slice (a) (len) (cap)] w fun e w' => NewRow w (fun (x : DpX) b => .slice (some ⟨b, 0, none⟩) x.L.length x.cap) 36 (fun x => x.cur) (fun x => Rw x.cur x.L.length x.cap 5 (cellsOf Ru.arr x.L) ∧ x.L.length ≤ 6) e w' := by
  refine calls_begin Tryd.func5 rfl 6 rfl (Nat.le_of_ble_eq_true rfl) [(0, .slice (a) (len) (cap))] ⟨rfl, trivial⟩ (fun a0 he0 hm0 => ?_)
  refine wp_seqR ?_
  refine wl_val he0 rfl rfl (.slice none 0 0) (rn_move _ (Or.inr rfl) _ rfl) (fun a1 he1 => ?_)
  clear he0
  refine wl_end ?_
  refine wp_seqR ?_
  refine wl_val he1 rfl rfl (.slice (a) (len) (cap)) (rn_move _ (Or.inl rfl) _ (he1.tmp 0 _ rfl)) (fun a2 he2 => ?_)
  clear he1
  refine wl_callN he2 hm0 1 rfl rfl rfl _ #[.slice (a) (len) (cap)] (enter_call _ _ _ rfl 15 #[] #[] rfl #[.slice (a) (len) (cap)] (map1 (he2.tmp 3 _ rfl)) #[.slice (a) (len) (cap)] rfl (fun _ _ => by kernel_rfl)) (c_open a len cap _ hc (hs.kb hm0.keep) hl) (fun x1 b1 a3 w1 hx1 he3 hm1 => ?_)
  clear he2 hm0
  have hgb := (hm1.own 1 _ rfl rfl).resolve_right (by simp)
  have hsb := hx1.1
  have hlb := hx1.2
  refine wl_callDN he3 hm1 1 rfl 2 rfl (by decide) rfl rfl _ #[.pointer (some ⟨b1, 0, none⟩)] (enter_call _ _ _ rfl 14 #[] #[] rfl #[.pointer (some ⟨b1, 0, none⟩)] (map1 (he3.tmp 4 _ rfl)) #[.pointer (some ⟨b1, 0, none⟩)] rfl (fun _ _ => by kernel_rfl)) (d_rules _ (RS.of (hm1.bx 1 _ _ _ _ rfl) hgb hm1.keep hsb hlb) (by omega)) (fun d1 b2 a4 w2 hd1 he4 hm2 => ?_)
  clear he3 hm1
  obtain ⟨hrw, hl6, hq1⟩ := hd1
  refine wl_val he4 rfl rfl (.slice (some ⟨b2, 0, none⟩) (d1.L.length) (d1.cap)) (rn_move _ (Or.inr rfl) _ (he4.tmp 5 _ rfl)) (fun a5 he5 => ?_)
  clear he4
  refine wl_end ?_
  refine wp_ret ?_
  exact bodyPost_ret (results_tmp he5 _ Tryd.results5 _ rfl) he5.defers ⟨⟨d1.L, d1.cap, d1.cur⟩, _, rfl, hm2.bx 2 _ _ _ _ rfl, ⟨hrw, hl6⟩, (hm2.own 2 _ rfl rfl).resolve_right (by simp), hm2.below⟩
set_option maxRecDepth 100000 in
set_option maxHeartbeats 4000000 in
theorem c_drawGet (a : Option Addr) (len cap : Nat) (w : World) (hc : len ≤ cap) (hs : Src w a len) (hl : cap < 2 ^ 63) :
    Calls Tryd.prog 12 #[.slice (a) (len) (cap)] w fun e w' => NewRow w (fun (x : ByteArray × Nat × Nat) b => .string x.1) 52 (fun x => rdA a x.2.1 cap x.2.2) (fun x => x.1.size ≤ 2100) e w' := by
  refine calls_begin Tryd.func12 rfl 17 rfl (Nat.le_of_ble_eq_true rfl) [(0, .slice (a) (len) (cap))] ⟨rfl, trivial⟩ (fun a0 he0 hm0 => ?_)
  refine wp_seqR ?_
  refine wl_val he0 rfl rfl (.string (⟨#[]⟩)) (rn_move _ (Or.inr rfl) _ rfl) (fun a1 he1 => ?_)
  clear he0
  refine wl_end ?_
  refine wp_seqR ?_
  refine wl_val he1 rfl rfl (.slice (a) (len) (cap)) (rn_move _ (Or.inl rfl) _ (he1.tmp 0 _ rfl)) (fun a2 he2 => ?_)
  clear he1
  refine wl_callN he2 hm0 1 rfl rfl rfl _ #[.slice (a) (len) (cap)] (enter_call _ _ _ rfl 15 #[] #[] rfl #[.slice (a) (len) (cap)] (map1 (he2.tmp 5 _ rfl)) #[.slice (a) (len) (cap)] rfl (fun _ _ => by kernel_rfl)) (c_open a len cap _ hc (hs.kb hm0.keep) hl) (fun x1 b1 a3 w1 hx1 he3 hm1 => ?_)
  clear he2 hm0
  refine wl_val he3 rfl rfl (.pointer (some ⟨b1, 0, none⟩)) (rn_move _ (Or.inr rfl) _ (he3.tmp 6 _ rfl)) (fun a4 he4 => ?_)
  clear he3
  refine wl_end ?_
  refine wp_seqR ?_
  refine wl_val he4 rfl rfl (.pointer (some ⟨b1, 0, none⟩)) (rn_move _ (Or.inl rfl) _ (he4.tmp 3 _ rfl)) (fun a5 he5 => ?_)
  clear he4
  have hgb := (hm1.own 1 _ rfl rfl).resolve_right (by simp)
  have hsb := hx1.1
  have hlb := hx1.2
  refine wl_callDN he5 hm1 1 rfl 2 rfl (by decide) rfl rfl _ #[.pointer (some ⟨b1, 0, none⟩)] (enter_call _ _ _ rfl 14 #[] #[] rfl #[.pointer (some ⟨b1, 0, none⟩)] (map1 (he5.tmp 7 _ rfl)) #[.pointer (some ⟨b1, 0, none⟩)] rfl (fun _ _ => by kernel_rfl)) (d_rules _ (RS.of (hm1.bx 1 _ _ _ _ rfl) hgb hm1.keep hsb hlb) (by omega)) (fun d1 b2 a6 w2 hd1 he6 hm2 => ?_)
  clear he5 hm1
  obtain ⟨hrw, hl6, hq1⟩ := hd1
  refine wl_call he6 hm2 rfl rfl _ #[.slice (some ⟨b2, 0, none⟩) (d1.L.length) (d1.cap)] (enter_call _ _ _ rfl 7 #[] #[] rfl #[.slice (some ⟨b2, 0, none⟩) (d1.L.length) (d1.cap)] (map1 (he6.tmp 8 _ rfl)) #[.slice (some ⟨b2, 0, none⟩) (d1.L.length) (d1.cap)] rfl (fun _ _ => by kernel_rfl)) (.string (putR (fun i => d1.L.getD i ru0) d1.L.length)) (c_put (fun i => d1.L.getD i ru0) b2 0 d1.L.length d1.cap _ (Rw.rowAt RuSz ru0 hrw rfl (hm2.bx 2 _ _ _ _ rfl)) (by omega)) (fun a7 w3 he7 hm3 => ?_)
  clear he6 hm2
  refine wl_val he7 rfl rfl (.string (putR (fun i => d1.L.getD i ru0) d1.L.length)) (rn_move _ (Or.inr rfl) _ (he7.tmp 9 _ rfl)) (fun a8 he8 => ?_)
  clear he7
  refine wl_end ?_
  refine wp_seq ?_
  refine wp_seqR ?_
  refine wl_val he8 rfl rfl (.pointer (some ⟨b1, 0, none⟩)) (rn_move _ (Or.inl rfl) _ (he8.tmp 3 _ rfl)) (fun a9 he9 => ?_)
  clear he8
  refine wl_callD he9 hm3 1 rfl rfl rfl _ #[.pointer (some ⟨b1, 0, none⟩), .int .i64 (3)] (enter_call _ _ _ rfl 23 #[] #[] rfl #[.pointer (some ⟨b1, 0, none⟩), .int .i64 (3)] (map2 (he9.tmp 10 _ rfl) rfl) #[.pointer (some ⟨b1, 0, none⟩), .int .i64 (3)] rfl (fun _ _ => by kernel_rfl)) (d_pick (RS.of (hm3.bx 1 _ _ _ _ rfl) hgb hm3.keep hsb hlb) (by omega) 3 (by omega) (by omega)) (fun d2 a10 w4 hd2 he10 hm4 => ?_)
  clear he9 hm3
  cases hd1 : (decide (((d2 : Nat) : Int) > 0))
  ·
   have hd1p := of_decide_eq_false hd1
   refine wl_val he10 rfl rfl (.bool false) (rn_bin _ _ _ _ _ rfl .i64 _ _ (he10.tmp 11 _ rfl) rfl (.bool (decide (((d2 : Nat) : Int) > 0))) _ rfl (congrArg Value.bool (hd1))) (fun a11 he11 => ?_)
   clear he10
   refine wl_end ?_
   refine wp_condF (he := he11) rfl ?_
   refine wp_skip ?_
   refine then_normal ?_
   refine wp_seqR ?_
   refine wl_val he11 rfl rfl (.pointer (some ⟨b1, 0, none⟩)) (rn_move _ (Or.inl rfl) _ (he11.tmp 3 _ rfl)) (fun a12 he12 => ?_)
   clear he11
   refine wl_val he12 rfl rfl (.string (putR (fun i => d1.L.getD i ru0) d1.L.length)) (rn_move _ (Or.inl rfl) _ (he12.tmp 4 _ rfl)) (fun a13 he13 => ?_)
   clear he12
   have hsl := putR_le (f := fun i => d1.L.getD i ru0) (n := d1.L.length) hl6
   refine wl_callD he13 hm4 1 rfl rfl rfl _ #[.pointer (some ⟨b1, 0, none⟩), .string (putR (fun i => d1.L.getD i ru0) d1.L.length)] (enter_call _ _ _ rfl 24 #[] #[] rfl #[.pointer (some ⟨b1, 0, none⟩), .string (putR (fun i => d1.L.getD i ru0) d1.L.length)] (map2 (he13.tmp 14 _ rfl) (he13.tmp 15 _ rfl)) #[.pointer (some ⟨b1, 0, none⟩), .string (putR (fun i => d1.L.getD i ru0) d1.L.length)] rfl (fun _ _ => by kernel_rfl)) (d_bent (RS.of (hm4.bx 1 _ _ _ _ rfl) hgb hm4.keep hsb hlb) (by omega) (putR (fun i => d1.L.getD i ru0) d1.L.length) (by omega)) (fun d3 a14 w5 hd3 he14 hm5 => ?_)
   clear he13 hm4
   obtain ⟨hs21, hq9⟩ := hd3
   refine wl_val he14 rfl rfl (.string (d3.1)) (rn_move _ (Or.inr rfl) _ (he14.tmp 16 _ rfl)) (fun a15 he15 => ?_)
   clear he14
   refine wl_end ?_
   refine wp_ret ?_
   exact bodyPost_ret (results_tmp he15 _ Tryd.results12 _ rfl) he15.defers ⟨⟨d3.1, x1, d3.2⟩, _, rfl, hm5.bx 1 _ _ _ _ rfl, hs21, (hm5.own 1 _ rfl rfl).resolve_right (by simp), hm5.below⟩
  ·
   have hd1p := of_decide_eq_true hd1
   refine wl_val he10 rfl rfl (.bool true) (rn_bin _ _ _ _ _ rfl .i64 _ _ (he10.tmp 11 _ rfl) rfl (.bool (decide (((d2 : Nat) : Int) > 0))) _ rfl (congrArg Value.bool (hd1))) (fun a11 he11 => ?_)
   clear he10
   refine wl_end ?_
   refine wp_condT (he := he11) rfl ?_
   refine wp_seqR ?_
   refine wl_val he11 rfl rfl (.string (putR (fun i => d1.L.getD i ru0) d1.L.length)) (rn_move _ (Or.inl rfl) _ (he11.tmp 4 _ rfl)) (fun a12 he12 => ?_)
   clear he11
   refine wl_val he12 rfl rfl (.string (putR (fun i => d1.L.getD i ru0) d1.L.length)) (rn_move _ (Or.inr rfl) _ (he12.tmp 13 _ rfl)) (fun a13 he13 => ?_)
   clear he12
   refine wl_end ?_
   refine wp_ret ?_
   refine ret_then ?_
   exact bodyPost_ret (results_tmp he13 _ Tryd.results12 _ rfl) he13.defers ⟨⟨putR (fun i => d1.L.getD i ru0) d1.L.length, x1, d1.q + 1⟩, _, rfl, hm4.bx 1 _ _ _ _ rfl, (Nat.le_trans (putR_le (f := fun i => d1.L.getD i ru0) (n := d1.L.length) hl6) (by omega)), (hm4.own 1 _ rfl rfl).resolve_right (by simp), hm4.below⟩
set_option maxRecDepth 100000 in
set_option maxHeartbeats 4000000 in
theorem law_rput (a : Option Addr) (len cap : Nat) (w : World) (hc : len ≤ cap) (hs : Src w a len) (hl : cap < 2 ^ 63) (hT : TabsRG w) :
    Calls Tryd.prog 3 #[.slice (a) (len) (cap)] w fun e w' => e = .returned (.bool true) ∧ Below w.heap.size w w' := by
  refine calls_begin Tryd.func3 rfl 51 rfl (Nat.le_of_ble_eq_true rfl) [(0, .slice (a) (len) (cap))] ⟨rfl, trivial⟩ (fun a0 he0 hm0 => ?_)
  refine wp_seqR ?_
  refine wl_val he0 rfl rfl (.bool false) (rn_move _ (Or.inr rfl) _ rfl) (fun a1 he1 => ?_)
  clear he0
  refine wl_end ?_
  refine wp_seq ?_
  refine wp_seqR ?_
  refine wl_val he1 rfl rfl (.slice (a) (len) (cap)) (rn_move _ (Or.inl rfl) _ (he1.tmp 0 _ rfl)) (fun a2 he2 => ?_)
  clear he1
  refine wl_val he2 rfl rfl (.int .i64 (((len : Nat) : Int))) (rn_builtin _ _ _ rfl #[.slice (a) (len) (cap)] (map1 (he2.tmp 7 _ rfl)) (.int .i64 (((len : Nat) : Int))) (by kernel_rfl)) (fun a3 he3 => ?_)
  clear he2
  cases hd1 : (decide (((len : Nat) : Int) > 1048576))
  ·
   have hd1p := of_decide_eq_false hd1
   refine wl_val he3 rfl rfl (.bool false) (rn_bin _ _ _ _ _ rfl .i64 _ _ (he3.tmp 8 _ rfl) rfl (.bool (decide (((len : Nat) : Int) > 1048576))) _ rfl (congrArg Value.bool (hd1))) (fun a4 he4 => ?_)
   clear he3
   refine wl_end ?_
   refine wp_condF (he := he4) rfl ?_
   refine wp_skip ?_
   refine then_normal ?_
   refine wp_seqR ?_
   refine wl_val he4 rfl rfl (.slice (a) (len) (cap)) (rn_move _ (Or.inl rfl) _ (he4.tmp 0 _ rfl)) (fun a5 he5 => ?_)
   clear he4
   refine wl_callN he5 hm0 1 rfl rfl rfl _ #[.slice (a) (len) (cap)] (enter_call _ _ _ rfl 5 #[] #[] rfl #[.slice (a) (len) (cap)] (map1 (he5.tmp 10 _ rfl)) #[.slice (a) (len) (cap)] rfl (fun _ _ => by kernel_rfl)) (c_drawPut a len cap _ hc (hs.kb hm0.keep) hl) (fun x1 b1 a6 w1 hx1 he6 hm1 => ?_)
   clear he5 hm0
   obtain ⟨hrw, hl6⟩ := hx1
   have hsm : (!((putR (fun i => x1.L.getD i ru0) x1.L.length).toList == (putR (fun i => x1.L.getD i ru0) x1.L.length).toList)) = false := by simp
   have hsm2 : ((putR (fun i => x1.L.getD i ru0) x1.L.length).toList == (putR (fun i => x1.L.getD i ru0) x1.L.length).toList) = true := by simp
   refine wl_val he6 rfl rfl (.slice (some ⟨b1, 0, none⟩) (x1.L.length) (x1.cap)) (rn_move _ (Or.inr rfl) _ (he6.tmp 11 _ rfl)) (fun a7 he7 => ?_)
   clear he6
   refine wl_end ?_
   refine wp_seqR ?_
   refine wl_val he7 rfl rfl (.slice (some ⟨b1, 0, none⟩) (x1.L.length) (x1.cap)) (rn_move _ (Or.inl rfl) _ (he7.tmp 3 _ rfl)) (fun a8 he8 => ?_)
   clear he7
   refine wl_call he8 hm1 rfl rfl _ #[.slice (some ⟨b1, 0, none⟩) (x1.L.length) (x1.cap)] (enter_call _ _ _ rfl 6 #[] #[] rfl #[.slice (some ⟨b1, 0, none⟩) (x1.L.length) (x1.cap)] (map1 (he8.tmp 12 _ rfl)) #[.slice (some ⟨b1, 0, none⟩) (x1.L.length) (x1.cap)] rfl (fun _ _ => by kernel_rfl)) (.string (putR (fun i => x1.L.getD i ru0) x1.L.length)) (c_iput (fun i => x1.L.getD i ru0) b1 0 x1.L.length x1.cap _ (Rw.rowAt RuSz ru0 hrw rfl (hm1.bx 1 _ _ _ _ rfl)) (by omega) (hT.kb hm1.keep rfl).t) (fun a9 w2 he9 hm2 => ?_)
   clear he8 hm1
   refine wl_val he9 rfl rfl (.string (putR (fun i => x1.L.getD i ru0) x1.L.length)) (rn_move _ (Or.inr rfl) _ (he9.tmp 13 _ rfl)) (fun a10 he10 => ?_)
   clear he9
   refine wl_end ?_
   refine wp_seq ?_
   refine wp_seqR ?_
   refine wl_val he10 rfl rfl (.string (putR (fun i => x1.L.getD i ru0) x1.L.length)) (rn_move _ (Or.inl rfl) _ (he10.tmp 4 _ rfl)) (fun a11 he11 => ?_)
   clear he10
   refine wl_val he11 rfl rfl (.slice (some ⟨b1, 0, none⟩) (x1.L.length) (x1.cap)) (rn_move _ (Or.inl rfl) _ (he11.tmp 3 _ rfl)) (fun a12 he12 => ?_)
   clear he11
   refine wl_call he12 hm2 rfl rfl _ #[.slice (some ⟨b1, 0, none⟩) (x1.L.length) (x1.cap)] (enter_call _ _ _ rfl 7 #[] #[] rfl #[.slice (some ⟨b1, 0, none⟩) (x1.L.length) (x1.cap)] (map1 (he12.tmp 15 _ rfl)) #[.slice (some ⟨b1, 0, none⟩) (x1.L.length) (x1.cap)] rfl (fun _ _ => by kernel_rfl)) (.string (putR (fun i => x1.L.getD i ru0) x1.L.length)) (c_put (fun i => x1.L.getD i ru0) b1 0 x1.L.length x1.cap _ (Rw.rowAt RuSz ru0 hrw rfl (hm2.bx 1 _ _ _ _ rfl)) (by omega)) (fun a13 w3 he13 hm3 => ?_)
   clear he12 hm2
   refine wl_val he13 rfl rfl (.bool false) (rn_seq _ (by simp) _ _ _ _ rfl _ _ (he13.tmp 14 _ rfl) (he13.tmp 16 _ rfl) _ (by first | (simp [hsm]; done) | rw [if_pos rfl, hsm] | rw [if_neg (by decide), hsm])) (fun a14 he14 => ?_)
   clear he13
   refine wl_val he14 rfl rfl (.bool false) (rn_move _ (Or.inl rfl) _ (he14.tmp 17 _ rfl)) (fun a15 he15 => ?_)
   clear he14
   refine wl_val he15 rfl (wanted_slot he15 4 false rfl 18 rfl false rfl true rfl) (.slice (some ⟨b1, 0, none⟩) (x1.L.length) (x1.cap)) (rn_move _ (Or.inl rfl) _ (he15.tmp 3 _ rfl)) (fun a16 he16 => ?_)
   clear he15
   cases hd2 : (ruOks (fun i => x1.L.getD i ru0) x1.L.length)
   ·
    refine wl_call he16 hm3 rfl (wanted_slot he16 4 false rfl 18 rfl false rfl true rfl) _ #[.slice (some ⟨b1, 0, none⟩) (x1.L.length) (x1.cap)] (enter_call _ _ _ rfl 8 #[] #[] rfl #[.slice (some ⟨b1, 0, none⟩) (x1.L.length) (x1.cap)] (map1 (he16.tmp 19 _ rfl)) #[.slice (some ⟨b1, 0, none⟩) (x1.L.length) (x1.cap)] rfl (fun _ _ => by kernel_rfl)) (.bool false) (callsV (congrArg Value.bool (hd2)) (c_Oks (fun i => x1.L.getD i ru0) b1 0 x1.L.length x1.cap _ (Rw.rowAt RuSz ru0 hrw rfl (hm3.bx 1 _ _ _ _ rfl)) (by omega))) (fun a17 w4 he17 hm4 => ?_)
    clear he16 hm3
    refine wl_val he17 rfl (wanted_slot he17 4 false rfl 18 rfl false rfl true rfl) (.slice (some ⟨b1, 0, none⟩) (x1.L.length) (x1.cap)) (rn_move _ (Or.inl rfl) _ (he17.tmp 3 _ rfl)) (fun a18 he18 => ?_)
    clear he17
    refine wl_call he18 hm4 rfl (wanted_slot he18 4 false rfl 18 rfl false rfl true rfl) _ #[.slice (some ⟨b1, 0, none⟩) (x1.L.length) (x1.cap)] (enter_call _ _ _ rfl 9 #[] #[] rfl #[.slice (some ⟨b1, 0, none⟩) (x1.L.length) (x1.cap)] (map1 (he18.tmp 21 _ rfl)) #[.slice (some ⟨b1, 0, none⟩) (x1.L.length) (x1.cap)] rfl (fun _ _ => by kernel_rfl)) (.bool false) (callsV (congrArg Value.bool (hd2)) (c_spOk (fun i => x1.L.getD i ru0) b1 0 x1.L.length x1.cap _ (Rw.rowAt RuSz ru0 hrw rfl (hm4.bx 1 _ _ _ _ rfl)) (by omega))) (fun a19 w5 he19 hm5 => ?_)
    clear he18 hm4
    refine wl_val he19 rfl (wanted_slot he19 4 false rfl 18 rfl false rfl true rfl) (.bool false) (rn_binG _ _ _ _ _ rfl _ _ (he19.tmp 20 _ rfl) (he19.tmp 22 _ rfl) _ rfl (by kernel_rfl)) (fun a20 he20 => ?_)
    clear he19
    refine wl_val he20 rfl rfl (.bool false) (rn_pickF _ _ _ rfl (he20.tmp 18 _ rfl) _ (he20.tmp 23 _ rfl)) (fun a21 he21 => ?_)
    clear he20
    refine wl_val he21 rfl rfl (.bool false) (rn_move _ (Or.inl rfl) _ (he21.tmp 24 _ rfl)) (fun a22 he22 => ?_)
    clear he21
    refine wl_val he22 rfl (wanted_slot he22 11 false rfl 25 rfl false rfl true rfl) (.string (putR (fun i => x1.L.getD i ru0) x1.L.length)) (rn_move _ (Or.inl rfl) _ (he22.tmp 4 _ rfl)) (fun a23 he23 => ?_)
    clear he22
    cases hd3 : (((putR (fun i => x1.L.getD i ru0) x1.L.length).toList == (⟨#[]⟩ : ByteArray).toList))
    ·
     obtain ⟨hok, hne⟩ := put_some hd3
     have hd3p : (putR (fun i => x1.L.getD i ru0) x1.L.length).toList ≠ (⟨#[]⟩ : ByteArray).toList := by simpa using hd3
     refine wl_val he23 rfl (wanted_slot he23 11 false rfl 25 rfl false rfl true rfl) (.bool false) (rn_seq _ (by simp) _ _ _ _ rfl _ _ (he23.tmp 26 _ rfl) rfl _ (by first | (simp [hd3]; done) | rw [if_pos rfl, hd3] | rw [if_neg (by decide), hd3])) (fun a24 he24 => ?_)
     clear he23
     refine wl_val he24 rfl rfl (.bool false) (rn_pickF _ _ _ rfl (he24.tmp 25 _ rfl) _ (he24.tmp 27 _ rfl)) (fun a25 he25 => ?_)
     clear he24
     refine wl_end ?_
     refine wp_condF (he := he25) rfl ?_
     refine wp_skip ?_
     refine then_normal ?_
     refine wp_seqR ?_
     refine wl_val he25 rfl rfl (.string (putR (fun i => x1.L.getD i ru0) x1.L.length)) (rn_move _ (Or.inl rfl) _ (he25.tmp 4 _ rfl)) (fun a26 he26 => ?_)
     clear he25
     have hsz : (putR (fun i => x1.L.getD i ru0) x1.L.length).size ≤ 1048576 := by have := putR_le (f := (fun i => x1.L.getD i ru0)) (n := x1.L.length) hl6; omega
     refine wl_callN he26 hm5 2 rfl rfl rfl _ #[.string (putR (fun i => x1.L.getD i ru0) x1.L.length)] (enter_call _ _ _ rfl 10 #[] #[] rfl #[.string (putR (fun i => x1.L.getD i ru0) x1.L.length)] (map1 (he26.tmp 41 _ rfl)) #[.string (putR (fun i => x1.L.getD i ru0) x1.L.length)] rfl (fun _ _ => by kernel_rfl)) (c_iget_y _ _ hsz (hT.kb hm5.keep rfl) x1.L (put_get hok) hne) (fun x2 b2 a27 w6 hx2 he27 hm6 => ?_)
     clear he26 hm5
     have rw2_n : Rw (x2.2) (x1.L.length) (x2.1) 5 (cellsOf Ru.arr (x1.L)) := hx2
     refine wl_val he27 rfl rfl (.tuple #[.slice (some ⟨b2, 0, none⟩) (x1.L.length) (x2.1), .bool true]) (rn_move _ (Or.inl rfl) _ (he27.tmp 42 _ rfl)) (fun a28 he28 => ?_)
     clear he27
     refine wl_val he28 rfl rfl (.slice (some ⟨b2, 0, none⟩) (x1.L.length) (x2.1)) (rn_extract _ _ rfl _ (he28.tmp 40 _ rfl) _ rfl) (fun a29 he29 => ?_)
     clear he28
     refine wl_val he29 rfl rfl (.bool true) (rn_extract _ _ rfl _ (he29.tmp 40 _ rfl) _ rfl) (fun a30 he30 => ?_)
     clear he29
     refine wl_val he30 rfl rfl (.slice (some ⟨b2, 0, none⟩) (x1.L.length) (x2.1)) (rn_move _ (Or.inr rfl) _ (he30.tmp 43 _ rfl)) (fun a31 he31 => ?_)
     clear he30
     refine wl_val he31 rfl rfl (.bool true) (rn_move _ (Or.inr rfl) _ (he31.tmp 44 _ rfl)) (fun a32 he32 => ?_)
     clear he31
     refine wl_end ?_
     refine wp_seqR ?_
     refine wl_val he32 rfl rfl (.bool true) (rn_move _ (Or.inl rfl) _ (he32.tmp 6 _ rfl)) (fun a33 he33 => ?_)
     clear he32
     refine wl_val he33 rfl rfl (.bool true) (rn_move _ (Or.inl rfl) _ (he33.tmp 45 _ rfl)) (fun a34 he34 => ?_)
     clear he33
     refine wl_val he34 rfl (wanted_slot he34 1 true rfl 46 rfl true rfl true rfl) (.slice (some ⟨b2, 0, none⟩) (x1.L.length) (x2.1)) (rn_move _ (Or.inl rfl) _ (he34.tmp 5 _ rfl)) (fun a35 he35 => ?_)
     clear he34
     refine wl_val he35 rfl (wanted_slot he35 1 true rfl 46 rfl true rfl true rfl) (.slice (some ⟨b1, 0, none⟩) (x1.L.length) (x1.cap)) (rn_move _ (Or.inl rfl) _ (he35.tmp 3 _ rfl)) (fun a36 he36 => ?_)
     clear he35
     refine wl_call he36 hm6 rfl (wanted_slot he36 1 true rfl 46 rfl true rfl true rfl) _ #[.slice (some ⟨b2, 0, none⟩) (x1.L.length) (x2.1), .slice (some ⟨b1, 0, none⟩) (x1.L.length) (x1.cap)] (enter_call _ _ _ rfl 11 #[] #[] rfl #[.slice (some ⟨b2, 0, none⟩) (x1.L.length) (x2.1), .slice (some ⟨b1, 0, none⟩) (x1.L.length) (x1.cap)] (map2 (he36.tmp 47 _ rfl) (he36.tmp 48 _ rfl)) #[.slice (some ⟨b2, 0, none⟩) (x1.L.length) (x2.1), .slice (some ⟨b1, 0, none⟩) (x1.L.length) (x1.cap)] rfl (fun _ _ => by kernel_rfl)) (.bool true) (c_sg (fun i => x1.L.getD i ru0) b2 0 x1.L.length x2.1 b1 0 x1.cap _ (Rw.rowAt RuSz ru0 rw2_n rfl (hm6.bx 2 _ _ _ _ rfl)) (Rw.rowAt RuSz ru0 hrw rfl (hm6.bx 1 _ _ _ _ rfl)) (by omega)) (fun a37 w7 he37 hm7 => ?_)
     clear he36 hm6
     refine wl_val he37 rfl rfl (.bool true) (rn_pickT _ _ _ rfl (he37.tmp 46 _ rfl) _ (he37.tmp 49 _ rfl)) (fun a38 he38 => ?_)
     clear he37
     refine wl_val he38 rfl rfl (.bool true) (rn_move _ (Or.inr rfl) _ (he38.tmp 50 _ rfl)) (fun a39 he39 => ?_)
     clear he38
     refine wl_end ?_
     refine wp_ret ?_
     exact bodyPost_ret (results_tmp he39 _ Tryd.results3 _ rfl) he39.defers ⟨rfl, hm7.below⟩
    ·
     have hd3p : (putR (fun i => x1.L.getD i ru0) x1.L.length).toList = (⟨#[]⟩ : ByteArray).toList := by simpa using hd3
     refine wl_val he23 rfl (wanted_slot he23 11 false rfl 25 rfl false rfl true rfl) (.bool true) (rn_seq _ (by simp) _ _ _ _ rfl _ _ (he23.tmp 26 _ rfl) rfl _ (by first | (simp [hd3]; done) | rw [if_pos rfl, hd3] | rw [if_neg (by decide), hd3])) (fun a24 he24 => ?_)
     clear he23
     refine wl_val he24 rfl rfl (.bool true) (rn_pickF _ _ _ rfl (he24.tmp 25 _ rfl) _ (he24.tmp 27 _ rfl)) (fun a25 he25 => ?_)
     clear he24
     refine wl_end ?_
     refine wp_condT (he := he25) rfl ?_
     refine wp_seqR ?_
     refine wl_val he25 rfl rfl (.string (putR (fun i => x1.L.getD i ru0) x1.L.length)) (rn_move _ (Or.inl rfl) _ (he25.tmp 4 _ rfl)) (fun a26 he26 => ?_)
     clear he25
     refine wl_val he26 rfl rfl (.slice (some ⟨b1, 0, none⟩) (x1.L.length) (x1.cap)) (rn_move _ (Or.inl rfl) _ (he26.tmp 3 _ rfl)) (fun a27 he27 => ?_)
     clear he26
     refine wl_call he27 hm5 rfl rfl _ #[.slice (some ⟨b1, 0, none⟩) (x1.L.length) (x1.cap)] (enter_call _ _ _ rfl 7 #[] #[] rfl #[.slice (some ⟨b1, 0, none⟩) (x1.L.length) (x1.cap)] (map1 (he27.tmp 30 _ rfl)) #[.slice (some ⟨b1, 0, none⟩) (x1.L.length) (x1.cap)] rfl (fun _ _ => by kernel_rfl)) (.string (putR (fun i => x1.L.getD i ru0) x1.L.length)) (c_put (fun i => x1.L.getD i ru0) b1 0 x1.L.length x1.cap _ (Rw.rowAt RuSz ru0 hrw rfl (hm5.bx 1 _ _ _ _ rfl)) (by omega)) (fun a28 w6 he28 hm6 => ?_)
     clear he27 hm5
     refine wl_val he28 rfl rfl (.bool true) (rn_seq _ (by simp) _ _ _ _ rfl _ _ (he28.tmp 29 _ rfl) (he28.tmp 31 _ rfl) _ (by first | (simp [hsm2]; done) | rw [if_pos rfl, hsm2] | rw [if_neg (by decide), hsm2])) (fun a29 he29 => ?_)
     clear he28
     refine wl_val he29 rfl rfl (.bool true) (rn_move _ (Or.inl rfl) _ (he29.tmp 32 _ rfl)) (fun a30 he30 => ?_)
     clear he29
     refine wl_val he30 rfl (wanted_slot he30 4 true rfl 33 rfl true rfl true rfl) (.slice (some ⟨b1, 0, none⟩) (x1.L.length) (x1.cap)) (rn_move _ (Or.inl rfl) _ (he30.tmp 3 _ rfl)) (fun a31 he31 => ?_)
     clear he30
     refine wl_call he31 hm6 rfl (wanted_slot he31 4 true rfl 33 rfl true rfl true rfl) _ #[.slice (some ⟨b1, 0, none⟩) (x1.L.length) (x1.cap)] (enter_call _ _ _ rfl 8 #[] #[] rfl #[.slice (some ⟨b1, 0, none⟩) (x1.L.length) (x1.cap)] (map1 (he31.tmp 34 _ rfl)) #[.slice (some ⟨b1, 0, none⟩) (x1.L.length) (x1.cap)] rfl (fun _ _ => by kernel_rfl)) (.bool false) (callsV (congrArg Value.bool (hd2)) (c_Oks (fun i => x1.L.getD i ru0) b1 0 x1.L.length x1.cap _ (Rw.rowAt RuSz ru0 hrw rfl (hm6.bx 1 _ _ _ _ rfl)) (by omega))) (fun a32 w7 he32 hm7 => ?_)
     clear he31 hm6
     refine wl_val he32 rfl (wanted_slot he32 4 true rfl 33 rfl true rfl true rfl) (.slice (some ⟨b1, 0, none⟩) (x1.L.length) (x1.cap)) (rn_move _ (Or.inl rfl) _ (he32.tmp 3 _ rfl)) (fun a33 he33 => ?_)
     clear he32
     refine wl_call he33 hm7 rfl (wanted_slot he33 4 true rfl 33 rfl true rfl true rfl) _ #[.slice (some ⟨b1, 0, none⟩) (x1.L.length) (x1.cap)] (enter_call _ _ _ rfl 9 #[] #[] rfl #[.slice (some ⟨b1, 0, none⟩) (x1.L.length) (x1.cap)] (map1 (he33.tmp 36 _ rfl)) #[.slice (some ⟨b1, 0, none⟩) (x1.L.length) (x1.cap)] rfl (fun _ _ => by kernel_rfl)) (.bool false) (callsV (congrArg Value.bool (hd2)) (c_spOk (fun i => x1.L.getD i ru0) b1 0 x1.L.length x1.cap _ (Rw.rowAt RuSz ru0 hrw rfl (hm7.bx 1 _ _ _ _ rfl)) (by omega))) (fun a34 w8 he34 hm8 => ?_)
     clear he33 hm7
     refine wl_val he34 rfl (wanted_slot he34 4 true rfl 33 rfl true rfl true rfl) (.bool true) (rn_binG _ _ _ _ _ rfl _ _ (he34.tmp 35 _ rfl) (he34.tmp 37 _ rfl) _ rfl (by first | kernel_rfl | (rw [← rfl (a := ())]; kernel_rfl))) (fun a35 he35 => ?_)
     clear he34
     refine wl_val he35 rfl rfl (.bool true) (rn_pickT _ _ _ rfl (he35.tmp 33 _ rfl) _ (he35.tmp 38 _ rfl)) (fun a36 he36 => ?_)
     clear he35
     refine wl_val he36 rfl rfl (.bool true) (rn_move _ (Or.inr rfl) _ (he36.tmp 39 _ rfl)) (fun a37 he37 => ?_)
     clear he36
     refine wl_end ?_
     refine wp_ret ?_
     refine ret_then ?_
     exact bodyPost_ret (results_tmp he37 _ Tryd.results3 _ rfl) he37.defers ⟨rfl, hm8.below⟩
   ·
    refine wl_call he16 hm3 rfl (wanted_slot he16 4 false rfl 18 rfl false rfl true rfl) _ #[.slice (some ⟨b1, 0, none⟩) (x1.L.length) (x1.cap)] (enter_call _ _ _ rfl 8 #[] #[] rfl #[.slice (some ⟨b1, 0, none⟩) (x1.L.length) (x1.cap)] (map1 (he16.tmp 19 _ rfl)) #[.slice (some ⟨b1, 0, none⟩) (x1.L.length) (x1.cap)] rfl (fun _ _ => by kernel_rfl)) (.bool true) (callsV (congrArg Value.bool (hd2)) (c_Oks (fun i => x1.L.getD i ru0) b1 0 x1.L.length x1.cap _ (Rw.rowAt RuSz ru0 hrw rfl (hm3.bx 1 _ _ _ _ rfl)) (by omega))) (fun a17 w4 he17 hm4 => ?_)
    clear he16 hm3
    refine wl_val he17 rfl (wanted_slot he17 4 false rfl 18 rfl false rfl true rfl) (.slice (some ⟨b1, 0, none⟩) (x1.L.length) (x1.cap)) (rn_move _ (Or.inl rfl) _ (he17.tmp 3 _ rfl)) (fun a18 he18 => ?_)
    clear he17
    refine wl_call he18 hm4 rfl (wanted_slot he18 4 false rfl 18 rfl false rfl true rfl) _ #[.slice (some ⟨b1, 0, none⟩) (x1.L.length) (x1.cap)] (enter_call _ _ _ rfl 9 #[] #[] rfl #[.slice (some ⟨b1, 0, none⟩) (x1.L.length) (x1.cap)] (map1 (he18.tmp 21 _ rfl)) #[.slice (some ⟨b1, 0, none⟩) (x1.L.length) (x1.cap)] rfl (fun _ _ => by kernel_rfl)) (.bool true) (callsV (congrArg Value.bool (hd2)) (c_spOk (fun i => x1.L.getD i ru0) b1 0 x1.L.length x1.cap _ (Rw.rowAt RuSz ru0 hrw rfl (hm4.bx 1 _ _ _ _ rfl)) (by omega))) (fun a19 w5 he19 hm5 => ?_)
    clear he18 hm4
    refine wl_val he19 rfl (wanted_slot he19 4 false rfl 18 rfl false rfl true rfl) (.bool false) (rn_binG _ _ _ _ _ rfl _ _ (he19.tmp 20 _ rfl) (he19.tmp 22 _ rfl) _ rfl (by kernel_rfl)) (fun a20 he20 => ?_)
    clear he19
    refine wl_val he20 rfl rfl (.bool false) (rn_pickF _ _ _ rfl (he20.tmp 18 _ rfl) _ (he20.tmp 23 _ rfl)) (fun a21 he21 => ?_)
    clear he20
    refine wl_val he21 rfl rfl (.bool false) (rn_move _ (Or.inl rfl) _ (he21.tmp 24 _ rfl)) (fun a22 he22 => ?_)
    clear he21
    refine wl_val he22 rfl (wanted_slot he22 11 false rfl 25 rfl false rfl true rfl) (.string (putR (fun i => x1.L.getD i ru0) x1.L.length)) (rn_move _ (Or.inl rfl) _ (he22.tmp 4 _ rfl)) (fun a23 he23 => ?_)
    clear he22
    cases hd3 : (((putR (fun i => x1.L.getD i ru0) x1.L.length).toList == (⟨#[]⟩ : ByteArray).toList))
    ·
     obtain ⟨hok, hne⟩ := put_some hd3
     have hd3p : (putR (fun i => x1.L.getD i ru0) x1.L.length).toList ≠ (⟨#[]⟩ : ByteArray).toList := by simpa using hd3
     refine wl_val he23 rfl (wanted_slot he23 11 false rfl 25 rfl false rfl true rfl) (.bool false) (rn_seq _ (by simp) _ _ _ _ rfl _ _ (he23.tmp 26 _ rfl) rfl _ (by first | (simp [hd3]; done) | rw [if_pos rfl, hd3] | rw [if_neg (by decide), hd3])) (fun a24 he24 => ?_)
     clear he23
     refine wl_val he24 rfl rfl (.bool false) (rn_pickF _ _ _ rfl (he24.tmp 25 _ rfl) _ (he24.tmp 27 _ rfl)) (fun a25 he25 => ?_)
     clear he24
     refine wl_end ?_
     refine wp_condF (he := he25) rfl ?_
     refine wp_skip ?_
     refine then_normal ?_
     refine wp_seqR ?_
     refine wl_val he25 rfl rfl (.string (putR (fun i => x1.L.getD i ru0) x1.L.length)) (rn_move _ (Or.inl rfl) _ (he25.tmp 4 _ rfl)) (fun a26 he26 => ?_)
     clear he25
     have hsz : (putR (fun i => x1.L.getD i ru0) x1.L.length).size ≤ 1048576 := by have := putR_le (f := (fun i => x1.L.getD i ru0)) (n := x1.L.length) hl6; omega
     refine wl_callN he26 hm5 2 rfl rfl rfl _ #[.string (putR (fun i => x1.L.getD i ru0) x1.L.length)] (enter_call _ _ _ rfl 10 #[] #[] rfl #[.string (putR (fun i => x1.L.getD i ru0) x1.L.length)] (map1 (he26.tmp 41 _ rfl)) #[.string (putR (fun i => x1.L.getD i ru0) x1.L.length)] rfl (fun _ _ => by kernel_rfl)) (c_iget_y _ _ hsz (hT.kb hm5.keep rfl) x1.L (put_get hok) hne) (fun x2 b2 a27 w6 hx2 he27 hm6 => ?_)
     clear he26 hm5
     have rw2_n : Rw (x2.2) (x1.L.length) (x2.1) 5 (cellsOf Ru.arr (x1.L)) := hx2
     refine wl_val he27 rfl rfl (.tuple #[.slice (some ⟨b2, 0, none⟩) (x1.L.length) (x2.1), .bool true]) (rn_move _ (Or.inl rfl) _ (he27.tmp 42 _ rfl)) (fun a28 he28 => ?_)
     clear he27
     refine wl_val he28 rfl rfl (.slice (some ⟨b2, 0, none⟩) (x1.L.length) (x2.1)) (rn_extract _ _ rfl _ (he28.tmp 40 _ rfl) _ rfl) (fun a29 he29 => ?_)
     clear he28
     refine wl_val he29 rfl rfl (.bool true) (rn_extract _ _ rfl _ (he29.tmp 40 _ rfl) _ rfl) (fun a30 he30 => ?_)
     clear he29
     refine wl_val he30 rfl rfl (.slice (some ⟨b2, 0, none⟩) (x1.L.length) (x2.1)) (rn_move _ (Or.inr rfl) _ (he30.tmp 43 _ rfl)) (fun a31 he31 => ?_)
     clear he30
     refine wl_val he31 rfl rfl (.bool true) (rn_move _ (Or.inr rfl) _ (he31.tmp 44 _ rfl)) (fun a32 he32 => ?_)
     clear he31
     refine wl_end ?_
     refine wp_seqR ?_
     refine wl_val he32 rfl rfl (.bool true) (rn_move _ (Or.inl rfl) _ (he32.tmp 6 _ rfl)) (fun a33 he33 => ?_)
     clear he32
     refine wl_val he33 rfl rfl (.bool true) (rn_move _ (Or.inl rfl) _ (he33.tmp 45 _ rfl)) (fun a34 he34 => ?_)
     clear he33
     refine wl_val he34 rfl (wanted_slot he34 1 true rfl 46 rfl true rfl true rfl) (.slice (some ⟨b2, 0, none⟩) (x1.L.length) (x2.1)) (rn_move _ (Or.inl rfl) _ (he34.tmp 5 _ rfl)) (fun a35 he35 => ?_)
     clear he34
     refine wl_val he35 rfl (wanted_slot he35 1 true rfl 46 rfl true rfl true rfl) (.slice (some ⟨b1, 0, none⟩) (x1.L.length) (x1.cap)) (rn_move _ (Or.inl rfl) _ (he35.tmp 3 _ rfl)) (fun a36 he36 => ?_)
     clear he35
     refine wl_call he36 hm6 rfl (wanted_slot he36 1 true rfl 46 rfl true rfl true rfl) _ #[.slice (some ⟨b2, 0, none⟩) (x1.L.length) (x2.1), .slice (some ⟨b1, 0, none⟩) (x1.L.length) (x1.cap)] (enter_call _ _ _ rfl 11 #[] #[] rfl #[.slice (some ⟨b2, 0, none⟩) (x1.L.length) (x2.1), .slice (some ⟨b1, 0, none⟩) (x1.L.length) (x1.cap)] (map2 (he36.tmp 47 _ rfl) (he36.tmp 48 _ rfl)) #[.slice (some ⟨b2, 0, none⟩) (x1.L.length) (x2.1), .slice (some ⟨b1, 0, none⟩) (x1.L.length) (x1.cap)] rfl (fun _ _ => by kernel_rfl)) (.bool true) (c_sg (fun i => x1.L.getD i ru0) b2 0 x1.L.length x2.1 b1 0 x1.cap _ (Rw.rowAt RuSz ru0 rw2_n rfl (hm6.bx 2 _ _ _ _ rfl)) (Rw.rowAt RuSz ru0 hrw rfl (hm6.bx 1 _ _ _ _ rfl)) (by omega)) (fun a37 w7 he37 hm7 => ?_)
     clear he36 hm6
     refine wl_val he37 rfl rfl (.bool true) (rn_pickT _ _ _ rfl (he37.tmp 46 _ rfl) _ (he37.tmp 49 _ rfl)) (fun a38 he38 => ?_)
     clear he37
     refine wl_val he38 rfl rfl (.bool true) (rn_move _ (Or.inr rfl) _ (he38.tmp 50 _ rfl)) (fun a39 he39 => ?_)
     clear he38
     refine wl_end ?_
     refine wp_ret ?_
     exact bodyPost_ret (results_tmp he39 _ Tryd.results3 _ rfl) he39.defers ⟨rfl, hm7.below⟩
    ·
     have hd3p : (putR (fun i => x1.L.getD i ru0) x1.L.length).toList = (⟨#[]⟩ : ByteArray).toList := by simpa using hd3
     refine wl_val he23 rfl (wanted_slot he23 11 false rfl 25 rfl false rfl true rfl) (.bool true) (rn_seq _ (by simp) _ _ _ _ rfl _ _ (he23.tmp 26 _ rfl) rfl _ (by first | (simp [hd3]; done) | rw [if_pos rfl, hd3] | rw [if_neg (by decide), hd3])) (fun a24 he24 => ?_)
     clear he23
     refine wl_val he24 rfl rfl (.bool true) (rn_pickF _ _ _ rfl (he24.tmp 25 _ rfl) _ (he24.tmp 27 _ rfl)) (fun a25 he25 => ?_)
     clear he24
     refine wl_end ?_
     refine wp_condT (he := he25) rfl ?_
     refine wp_seqR ?_
     refine wl_val he25 rfl rfl (.string (putR (fun i => x1.L.getD i ru0) x1.L.length)) (rn_move _ (Or.inl rfl) _ (he25.tmp 4 _ rfl)) (fun a26 he26 => ?_)
     clear he25
     refine wl_val he26 rfl rfl (.slice (some ⟨b1, 0, none⟩) (x1.L.length) (x1.cap)) (rn_move _ (Or.inl rfl) _ (he26.tmp 3 _ rfl)) (fun a27 he27 => ?_)
     clear he26
     refine wl_call he27 hm5 rfl rfl _ #[.slice (some ⟨b1, 0, none⟩) (x1.L.length) (x1.cap)] (enter_call _ _ _ rfl 7 #[] #[] rfl #[.slice (some ⟨b1, 0, none⟩) (x1.L.length) (x1.cap)] (map1 (he27.tmp 30 _ rfl)) #[.slice (some ⟨b1, 0, none⟩) (x1.L.length) (x1.cap)] rfl (fun _ _ => by kernel_rfl)) (.string (putR (fun i => x1.L.getD i ru0) x1.L.length)) (c_put (fun i => x1.L.getD i ru0) b1 0 x1.L.length x1.cap _ (Rw.rowAt RuSz ru0 hrw rfl (hm5.bx 1 _ _ _ _ rfl)) (by omega)) (fun a28 w6 he28 hm6 => ?_)
     clear he27 hm5
     refine wl_val he28 rfl rfl (.bool true) (rn_seq _ (by simp) _ _ _ _ rfl _ _ (he28.tmp 29 _ rfl) (he28.tmp 31 _ rfl) _ (by first | (simp [hsm2]; done) | rw [if_pos rfl, hsm2] | rw [if_neg (by decide), hsm2])) (fun a29 he29 => ?_)
     clear he28
     refine wl_val he29 rfl rfl (.bool true) (rn_move _ (Or.inl rfl) _ (he29.tmp 32 _ rfl)) (fun a30 he30 => ?_)
     clear he29
     refine wl_val he30 rfl (wanted_slot he30 4 true rfl 33 rfl true rfl true rfl) (.slice (some ⟨b1, 0, none⟩) (x1.L.length) (x1.cap)) (rn_move _ (Or.inl rfl) _ (he30.tmp 3 _ rfl)) (fun a31 he31 => ?_)
     clear he30
     refine wl_call he31 hm6 rfl (wanted_slot he31 4 true rfl 33 rfl true rfl true rfl) _ #[.slice (some ⟨b1, 0, none⟩) (x1.L.length) (x1.cap)] (enter_call _ _ _ rfl 8 #[] #[] rfl #[.slice (some ⟨b1, 0, none⟩) (x1.L.length) (x1.cap)] (map1 (he31.tmp 34 _ rfl)) #[.slice (some ⟨b1, 0, none⟩) (x1.L.length) (x1.cap)] rfl (fun _ _ => by kernel_rfl)) (.bool true) (callsV (congrArg Value.bool (hd2)) (c_Oks (fun i => x1.L.getD i ru0) b1 0 x1.L.length x1.cap _ (Rw.rowAt RuSz ru0 hrw rfl (hm6.bx 1 _ _ _ _ rfl)) (by omega))) (fun a32 w7 he32 hm7 => ?_)
     clear he31 hm6
     refine wl_val he32 rfl (wanted_slot he32 4 true rfl 33 rfl true rfl true rfl) (.slice (some ⟨b1, 0, none⟩) (x1.L.length) (x1.cap)) (rn_move _ (Or.inl rfl) _ (he32.tmp 3 _ rfl)) (fun a33 he33 => ?_)
     clear he32
     refine wl_call he33 hm7 rfl (wanted_slot he33 4 true rfl 33 rfl true rfl true rfl) _ #[.slice (some ⟨b1, 0, none⟩) (x1.L.length) (x1.cap)] (enter_call _ _ _ rfl 9 #[] #[] rfl #[.slice (some ⟨b1, 0, none⟩) (x1.L.length) (x1.cap)] (map1 (he33.tmp 36 _ rfl)) #[.slice (some ⟨b1, 0, none⟩) (x1.L.length) (x1.cap)] rfl (fun _ _ => by kernel_rfl)) (.bool true) (callsV (congrArg Value.bool (hd2)) (c_spOk (fun i => x1.L.getD i ru0) b1 0 x1.L.length x1.cap _ (Rw.rowAt RuSz ru0 hrw rfl (hm7.bx 1 _ _ _ _ rfl)) (by omega))) (fun a34 w8 he34 hm8 => ?_)
     clear he33 hm7
     refine wl_val he34 rfl (wanted_slot he34 4 true rfl 33 rfl true rfl true rfl) (.bool true) (rn_binG _ _ _ _ _ rfl _ _ (he34.tmp 35 _ rfl) (he34.tmp 37 _ rfl) _ rfl (by first | kernel_rfl | (rw [← rfl (a := ())]; kernel_rfl))) (fun a35 he35 => ?_)
     clear he34
     refine wl_val he35 rfl rfl (.bool true) (rn_pickT _ _ _ rfl (he35.tmp 33 _ rfl) _ (he35.tmp 38 _ rfl)) (fun a36 he36 => ?_)
     clear he35
     refine wl_val he36 rfl rfl (.bool true) (rn_move _ (Or.inr rfl) _ (he36.tmp 39 _ rfl)) (fun a37 he37 => ?_)
     clear he36
     refine wl_end ?_
     refine wp_ret ?_
     refine ret_then ?_
     exact bodyPost_ret (results_tmp he37 _ Tryd.results3 _ rfl) he37.defers ⟨rfl, hm8.below⟩
  ·
   have hd1p := of_decide_eq_true hd1
   refine wl_val he3 rfl rfl (.bool true) (rn_bin _ _ _ _ _ rfl .i64 _ _ (he3.tmp 8 _ rfl) rfl (.bool (decide (((len : Nat) : Int) > 1048576))) _ rfl (congrArg Value.bool (hd1))) (fun a4 he4 => ?_)
   clear he3
   refine wl_end ?_
   refine wp_condT (he := he4) rfl ?_
   refine wp_seqR ?_
   refine wl_val he4 rfl rfl (.bool true) (rn_move _ (Or.inr rfl) _ rfl) (fun a5 he5 => ?_)
   clear he4
   refine wl_end ?_
   refine wp_ret ?_
   refine ret_then ?_
   exact bodyPost_ret (results_tmp he5 _ Tryd.results3 _ rfl) he5.defers ⟨rfl, hm0.below⟩
set_option maxRecDepth 100000 in
set_option maxHeartbeats 4000000 in
theorem law_rget (a : Option Addr) (len cap : Nat) (w : World) (hc : len ≤ cap) (hs : Src w a len) (hl : cap < 2 ^ 63) (hT : TabsRG w) :
    Calls Tryd.prog 4 #[.slice (a) (len) (cap)] w fun e w' => e = .returned (.bool true) ∧ Below w.heap.size w w' := by
  refine calls_begin Tryd.func4 rfl 52 rfl (Nat.le_of_ble_eq_true rfl) [(0, .slice (a) (len) (cap))] ⟨rfl, trivial⟩ (fun a0 he0 hm0 => ?_)
  refine wp_seqR ?_
  refine wl_val he0 rfl rfl (.bool false) (rn_move _ (Or.inr rfl) _ rfl) (fun a1 he1 => ?_)
  clear he0
  refine wl_end ?_
  refine wp_seq ?_
  refine wp_seqR ?_
  refine wl_val he1 rfl rfl (.slice (a) (len) (cap)) (rn_move _ (Or.inl rfl) _ (he1.tmp 0 _ rfl)) (fun a2 he2 => ?_)
  clear he1
  refine wl_val he2 rfl rfl (.int .i64 (((len : Nat) : Int))) (rn_builtin _ _ _ rfl #[.slice (a) (len) (cap)] (map1 (he2.tmp 8 _ rfl)) (.int .i64 (((len : Nat) : Int))) (by kernel_rfl)) (fun a3 he3 => ?_)
  clear he2
  cases hd1 : (decide (((len : Nat) : Int) > 1048576))
  ·
   have hd1p := of_decide_eq_false hd1
   refine wl_val he3 rfl rfl (.bool false) (rn_bin _ _ _ _ _ rfl .i64 _ _ (he3.tmp 9 _ rfl) rfl (.bool (decide (((len : Nat) : Int) > 1048576))) _ rfl (congrArg Value.bool (hd1))) (fun a4 he4 => ?_)
   clear he3
   refine wl_end ?_
   refine wp_condF (he := he4) rfl ?_
   refine wp_skip ?_
   refine then_normal ?_
   refine wp_seqR ?_
   refine wl_val he4 rfl rfl (.slice (a) (len) (cap)) (rn_move _ (Or.inl rfl) _ (he4.tmp 0 _ rfl)) (fun a5 he5 => ?_)
   clear he4
   refine wl_callN he5 hm0 1 rfl rfl rfl _ #[.slice (a) (len) (cap)] (enter_call _ _ _ rfl 12 #[] #[] rfl #[.slice (a) (len) (cap)] (map1 (he5.tmp 11 _ rfl)) #[.slice (a) (len) (cap)] rfl (fun _ _ => by kernel_rfl)) (c_drawGet a len cap _ hc (hs.kb hm0.keep) hl) (fun x1 b1 a6 w1 hx1 he6 hm1 => ?_)
   clear he5 hm0
   refine wl_val he6 rfl rfl (.string (x1.1)) (rn_move _ (Or.inr rfl) _ (he6.tmp 12 _ rfl)) (fun a7 he7 => ?_)
   clear he6
   refine wl_end ?_
   refine wp_seqR ?_
   refine wl_val he7 rfl rfl (.string (x1.1)) (rn_move _ (Or.inl rfl) _ (he7.tmp 3 _ rfl)) (fun a8 he8 => ?_)
   clear he7
   rcases get3 x1.1 with hg | hg | ⟨l, hg, hne⟩
   ·
    have hz : x1.1.size ≤ 1048576 := by have := hx1; omega
    refine wl_call he8 hm1 rfl rfl _ #[.string (x1.1)] (enter_call _ _ _ rfl 10 #[] #[] rfl #[.string (x1.1)] (map1 (he8.tmp 14 _ rfl)) #[.string (x1.1)] rfl (fun _ _ => by kernel_rfl)) (.tuple #[.slice (none) (0) (0), .bool false]) (c_iget_n _ _ hz (hT.kb hm1.keep rfl) hg) (fun a9 w2 he9 hm2 => ?_)
    clear he8 hm1
    refine wl_val he9 rfl rfl (.tuple #[.slice (none) (0) (0), .bool false]) (rn_move _ (Or.inl rfl) _ (he9.tmp 15 _ rfl)) (fun a10 he10 => ?_)
    clear he9
    refine wl_val he10 rfl rfl (.slice (none) (0) (0)) (rn_extract _ _ rfl _ (he10.tmp 13 _ rfl) _ rfl) (fun a11 he11 => ?_)
    clear he10
    refine wl_val he11 rfl rfl (.bool false) (rn_extract _ _ rfl _ (he11.tmp 13 _ rfl) _ rfl) (fun a12 he12 => ?_)
    clear he11
    refine wl_val he12 rfl rfl (.slice (none) (0) (0)) (rn_move _ (Or.inr rfl) _ (he12.tmp 16 _ rfl)) (fun a13 he13 => ?_)
    clear he12
    refine wl_val he13 rfl rfl (.bool false) (rn_move _ (Or.inr rfl) _ (he13.tmp 17 _ rfl)) (fun a14 he14 => ?_)
    clear he13
    refine wl_end ?_
    refine wp_seqR ?_
    refine wl_val he14 rfl rfl (.string (x1.1)) (rn_move _ (Or.inl rfl) _ (he14.tmp 3 _ rfl)) (fun a15 he15 => ?_)
    clear he14
    refine wl_call he15 hm2 rfl rfl _ #[.string (x1.1)] (enter_call _ _ _ rfl 13 #[] #[] rfl #[.string (x1.1)] (map1 (he15.tmp 19 _ rfl)) #[.string (x1.1)] rfl (fun _ _ => by kernel_rfl)) (.tuple #[.slice (none) (0) (0), .bool false]) (c_spget_n _ _ hz hg) (fun a16 w3 he16 hm3 => ?_)
    clear he15 hm2
    refine wl_val he16 rfl rfl (.tuple #[.slice (none) (0) (0), .bool false]) (rn_move _ (Or.inl rfl) _ (he16.tmp 20 _ rfl)) (fun a17 he17 => ?_)
    clear he16
    refine wl_val he17 rfl rfl (.slice (none) (0) (0)) (rn_extract _ _ rfl _ (he17.tmp 18 _ rfl) _ rfl) (fun a18 he18 => ?_)
    clear he17
    refine wl_val he18 rfl rfl (.bool false) (rn_extract _ _ rfl _ (he18.tmp 18 _ rfl) _ rfl) (fun a19 he19 => ?_)
    clear he18
    refine wl_val he19 rfl rfl (.slice (none) (0) (0)) (rn_move _ (Or.inr rfl) _ (he19.tmp 21 _ rfl)) (fun a20 he20 => ?_)
    clear he19
    refine wl_val he20 rfl rfl (.bool false) (rn_move _ (Or.inr rfl) _ (he20.tmp 22 _ rfl)) (fun a21 he21 => ?_)
    clear he20
    refine wl_end ?_
    refine wp_seq ?_
    refine wp_seqR ?_
    refine wl_val he21 rfl rfl (.bool false) (rn_move _ (Or.inl rfl) _ (he21.tmp 5 _ rfl)) (fun a22 he22 => ?_)
    clear he21
    refine wl_val he22 rfl rfl (.bool false) (rn_move _ (Or.inl rfl) _ (he22.tmp 7 _ rfl)) (fun a23 he23 => ?_)
    clear he22
    refine wl_val he23 rfl rfl (.bool false) (rn_binG _ _ _ _ _ rfl _ _ (he23.tmp 23 _ rfl) (he23.tmp 24 _ rfl) _ rfl (by kernel_rfl)) (fun a24 he24 => ?_)
    clear he23
    refine wl_val he24 rfl rfl (.bool false) (rn_move _ (Or.inl rfl) _ (he24.tmp 25 _ rfl)) (fun a25 he25 => ?_)
    clear he24
    refine wl_val he25 rfl (wanted_slot he25 3 false rfl 26 rfl false rfl true rfl) (.slice (none) (0) (0)) (rn_move _ (Or.inl rfl) _ (he25.tmp 4 _ rfl)) (fun a26 he26 => ?_)
    clear he25
    refine wl_val he26 rfl (wanted_slot he26 3 false rfl 26 rfl false rfl true rfl) (.slice (none) (0) (0)) (rn_move _ (Or.inl rfl) _ (he26.tmp 6 _ rfl)) (fun a27 he27 => ?_)
    clear he26
    refine wl_call he27 hm3 rfl (wanted_slot he27 3 false rfl 26 rfl false rfl true rfl) _ #[.slice (none) (0) (0), .slice (none) (0) (0)] (enter_call _ _ _ rfl 11 #[] #[] rfl #[.slice (none) (0) (0), .slice (none) (0) (0)] (map2 (he27.tmp 27 _ rfl) (he27.tmp 28 _ rfl)) #[.slice (none) (0) (0), .slice (none) (0) (0)] rfl (fun _ _ => by kernel_rfl)) (.bool true) (c_sg0 _ _ _ _ _) (fun a28 w4 he28 hm4 => ?_)
    clear he27 hm3
    refine wl_val he28 rfl (wanted_slot he28 3 false rfl 26 rfl false rfl true rfl) (.bool false) (rn_un _ _ _ rfl _ (.bool (!true)) _ (he28.tmp 29 _ rfl) rfl rfl) (fun a29 he29 => ?_)
    clear he28
    refine wl_val he29 rfl rfl (.bool false) (rn_pickF _ _ _ rfl (he29.tmp 26 _ rfl) _ (he29.tmp 30 _ rfl)) (fun a30 he30 => ?_)
    clear he29
    refine wl_val he30 rfl rfl (.bool false) (rn_move _ (Or.inl rfl) _ (he30.tmp 31 _ rfl)) (fun a31 he31 => ?_)
    clear he30
    refine wl_val he31 rfl (wanted_slot he31 9 false rfl 32 rfl false rfl true rfl) (.bool false) (rn_move _ (Or.inl rfl) _ (he31.tmp 5 _ rfl)) (fun a32 he32 => ?_)
    clear he31
    refine wl_val he32 rfl (wanted_slot he32 9 false rfl 32 rfl false rfl true rfl) (.bool true) (rn_un _ _ _ rfl _ (.bool (!false)) _ (he32.tmp 33 _ rfl) rfl rfl) (fun a33 he33 => ?_)
    clear he32
    refine wl_val he33 rfl rfl (.bool true) (rn_pickF _ _ _ rfl (he33.tmp 32 _ rfl) _ (he33.tmp 34 _ rfl)) (fun a34 he34 => ?_)
    clear he33
    refine wl_end ?_
    refine wp_condT (he := he34) rfl ?_
    refine wp_seqR ?_
    refine wl_val he34 rfl rfl (.bool false) (rn_move _ (Or.inl rfl) _ (he34.tmp 5 _ rfl)) (fun a35 he35 => ?_)
    clear he34
    refine wl_val he35 rfl rfl (.bool false) (rn_move _ (Or.inl rfl) _ (he35.tmp 7 _ rfl)) (fun a36 he36 => ?_)
    clear he35
    refine wl_val he36 rfl rfl (.bool true) (rn_binG _ _ _ _ _ rfl _ _ (he36.tmp 36 _ rfl) (he36.tmp 37 _ rfl) _ rfl (by first | kernel_rfl | (rw [← rfl (a := ())]; kernel_rfl))) (fun a37 he37 => ?_)
    clear he36
    refine wl_val he37 rfl rfl (.bool true) (rn_move _ (Or.inl rfl) _ (he37.tmp 38 _ rfl)) (fun a38 he38 => ?_)
    clear he37
    refine wl_val he38 rfl (wanted_slot he38 3 true rfl 39 rfl true rfl true rfl) (.slice (none) (0) (0)) (rn_move _ (Or.inl rfl) _ (he38.tmp 4 _ rfl)) (fun a39 he39 => ?_)
    clear he38
    refine wl_val he39 rfl (wanted_slot he39 3 true rfl 39 rfl true rfl true rfl) (.slice (none) (0) (0)) (rn_move _ (Or.inl rfl) _ (he39.tmp 6 _ rfl)) (fun a40 he40 => ?_)
    clear he39
    refine wl_call he40 hm4 rfl (wanted_slot he40 3 true rfl 39 rfl true rfl true rfl) _ #[.slice (none) (0) (0), .slice (none) (0) (0)] (enter_call _ _ _ rfl 11 #[] #[] rfl #[.slice (none) (0) (0), .slice (none) (0) (0)] (map2 (he40.tmp 40 _ rfl) (he40.tmp 41 _ rfl)) #[.slice (none) (0) (0), .slice (none) (0) (0)] rfl (fun _ _ => by kernel_rfl)) (.bool true) (c_sg0 _ _ _ _ _) (fun a41 w5 he41 hm5 => ?_)
    clear he40 hm4
    refine wl_val he41 rfl rfl (.bool true) (rn_pickT _ _ _ rfl (he41.tmp 39 _ rfl) _ (he41.tmp 42 _ rfl)) (fun a42 he42 => ?_)
    clear he41
    refine wl_val he42 rfl rfl (.bool true) (rn_move _ (Or.inr rfl) _ (he42.tmp 43 _ rfl)) (fun a43 he43 => ?_)
    clear he42
    refine wl_end ?_
    refine wp_ret ?_
    refine ret_then ?_
    exact bodyPost_ret (results_tmp he43 _ Tryd.results4 _ rfl) he43.defers ⟨rfl, hm5.below⟩
   ·
    have hz : x1.1.size ≤ 1048576 := by have := hx1; omega
    have hcg := cat_get hg
    have hps : ((⟨#[]⟩ : ByteArray).toList == (x1.1).toList) = true := by rw [← hcg.2.2]; simp [catL]
    refine wl_call he8 hm1 rfl rfl _ #[.string (x1.1)] (enter_call _ _ _ rfl 10 #[] #[] rfl #[.string (x1.1)] (map1 (he8.tmp 14 _ rfl)) #[.string (x1.1)] rfl (fun _ _ => by kernel_rfl)) (.tuple #[.slice (none) (0) (0), .bool true]) (c_iget_e _ _ hz (hT.kb hm1.keep rfl) hg) (fun a9 w2 he9 hm2 => ?_)
    clear he8 hm1
    refine wl_val he9 rfl rfl (.tuple #[.slice (none) (0) (0), .bool true]) (rn_move _ (Or.inl rfl) _ (he9.tmp 15 _ rfl)) (fun a10 he10 => ?_)
    clear he9
    refine wl_val he10 rfl rfl (.slice (none) (0) (0)) (rn_extract _ _ rfl _ (he10.tmp 13 _ rfl) _ rfl) (fun a11 he11 => ?_)
    clear he10
    refine wl_val he11 rfl rfl (.bool true) (rn_extract _ _ rfl _ (he11.tmp 13 _ rfl) _ rfl) (fun a12 he12 => ?_)
    clear he11
    refine wl_val he12 rfl rfl (.slice (none) (0) (0)) (rn_move _ (Or.inr rfl) _ (he12.tmp 16 _ rfl)) (fun a13 he13 => ?_)
    clear he12
    refine wl_val he13 rfl rfl (.bool true) (rn_move _ (Or.inr rfl) _ (he13.tmp 17 _ rfl)) (fun a14 he14 => ?_)
    clear he13
    refine wl_end ?_
    refine wp_seqR ?_
    refine wl_val he14 rfl rfl (.string (x1.1)) (rn_move _ (Or.inl rfl) _ (he14.tmp 3 _ rfl)) (fun a15 he15 => ?_)
    clear he14
    refine wl_callN he15 hm2 2 rfl rfl rfl _ #[.string (x1.1)] (enter_call _ _ _ rfl 13 #[] #[] rfl #[.string (x1.1)] (map1 (he15.tmp 19 _ rfl)) #[.string (x1.1)] rfl (fun _ _ => by kernel_rfl)) (c_spget_e _ _ hz hg) (fun x2 b2 a16 w3 hx2 he16 hm3 => ?_)
    clear he15 hm2
    have rw2_n : Rw (x2.2) (0) (x2.1) 5 (cellsOf Ru.arr ([])) := hx2
    refine wl_val he16 rfl rfl (.tuple #[.slice (some ⟨b2, 0, none⟩) (0) (x2.1), .bool true]) (rn_move _ (Or.inl rfl) _ (he16.tmp 20 _ rfl)) (fun a17 he17 => ?_)
    clear he16
    refine wl_val he17 rfl rfl (.slice (some ⟨b2, 0, none⟩) (0) (x2.1)) (rn_extract _ _ rfl _ (he17.tmp 18 _ rfl) _ rfl) (fun a18 he18 => ?_)
    clear he17
    refine wl_val he18 rfl rfl (.bool true) (rn_extract _ _ rfl _ (he18.tmp 18 _ rfl) _ rfl) (fun a19 he19 => ?_)
    clear he18
    refine wl_val he19 rfl rfl (.slice (some ⟨b2, 0, none⟩) (0) (x2.1)) (rn_move _ (Or.inr rfl) _ (he19.tmp 21 _ rfl)) (fun a20 he20 => ?_)
    clear he19
    refine wl_val he20 rfl rfl (.bool true) (rn_move _ (Or.inr rfl) _ (he20.tmp 22 _ rfl)) (fun a21 he21 => ?_)
    clear he20
    refine wl_end ?_
    refine wp_seq ?_
    refine wp_seqR ?_
    refine wl_val he21 rfl rfl (.bool true) (rn_move _ (Or.inl rfl) _ (he21.tmp 5 _ rfl)) (fun a22 he22 => ?_)
    clear he21
    refine wl_val he22 rfl rfl (.bool true) (rn_move _ (Or.inl rfl) _ (he22.tmp 7 _ rfl)) (fun a23 he23 => ?_)
    clear he22
    refine wl_val he23 rfl rfl (.bool false) (rn_binG _ _ _ _ _ rfl _ _ (he23.tmp 23 _ rfl) (he23.tmp 24 _ rfl) _ rfl (by kernel_rfl)) (fun a24 he24 => ?_)
    clear he23
    refine wl_val he24 rfl rfl (.bool false) (rn_move _ (Or.inl rfl) _ (he24.tmp 25 _ rfl)) (fun a25 he25 => ?_)
    clear he24
    refine wl_val he25 rfl (wanted_slot he25 3 false rfl 26 rfl false rfl true rfl) (.slice (none) (0) (0)) (rn_move _ (Or.inl rfl) _ (he25.tmp 4 _ rfl)) (fun a26 he26 => ?_)
    clear he25
    refine wl_val he26 rfl (wanted_slot he26 3 false rfl 26 rfl false rfl true rfl) (.slice (some ⟨b2, 0, none⟩) (0) (x2.1)) (rn_move _ (Or.inl rfl) _ (he26.tmp 6 _ rfl)) (fun a27 he27 => ?_)
    clear he26
    refine wl_call he27 hm3 rfl (wanted_slot he27 3 false rfl 26 rfl false rfl true rfl) _ #[.slice (none) (0) (0), .slice (some ⟨b2, 0, none⟩) (0) (x2.1)] (enter_call _ _ _ rfl 11 #[] #[] rfl #[.slice (none) (0) (0), .slice (some ⟨b2, 0, none⟩) (0) (x2.1)] (map2 (he27.tmp 27 _ rfl) (he27.tmp 28 _ rfl)) #[.slice (none) (0) (0), .slice (some ⟨b2, 0, none⟩) (0) (x2.1)] rfl (fun _ _ => by kernel_rfl)) (.bool true) (c_sg0 _ _ _ _ _) (fun a28 w4 he28 hm4 => ?_)
    clear he27 hm3
    refine wl_val he28 rfl (wanted_slot he28 3 false rfl 26 rfl false rfl true rfl) (.bool false) (rn_un _ _ _ rfl _ (.bool (!true)) _ (he28.tmp 29 _ rfl) rfl rfl) (fun a29 he29 => ?_)
    clear he28
    refine wl_val he29 rfl rfl (.bool false) (rn_pickF _ _ _ rfl (he29.tmp 26 _ rfl) _ (he29.tmp 30 _ rfl)) (fun a30 he30 => ?_)
    clear he29
    refine wl_val he30 rfl rfl (.bool false) (rn_move _ (Or.inl rfl) _ (he30.tmp 31 _ rfl)) (fun a31 he31 => ?_)
    clear he30
    refine wl_val he31 rfl (wanted_slot he31 9 false rfl 32 rfl false rfl true rfl) (.bool true) (rn_move _ (Or.inl rfl) _ (he31.tmp 5 _ rfl)) (fun a32 he32 => ?_)
    clear he31
    refine wl_val he32 rfl (wanted_slot he32 9 false rfl 32 rfl false rfl true rfl) (.bool false) (rn_un _ _ _ rfl _ (.bool (!true)) _ (he32.tmp 33 _ rfl) rfl rfl) (fun a33 he33 => ?_)
    clear he32
    refine wl_val he33 rfl rfl (.bool false) (rn_pickF _ _ _ rfl (he33.tmp 32 _ rfl) _ (he33.tmp 34 _ rfl)) (fun a34 he34 => ?_)
    clear he33
    refine wl_end ?_
    refine wp_condF (he := he34) rfl ?_
    refine wp_skip ?_
    refine then_normal ?_
    refine wp_seqR ?_
    refine wl_val he34 rfl rfl (.slice (none) (0) (0)) (rn_move _ (Or.inl rfl) _ (he34.tmp 4 _ rfl)) (fun a35 he35 => ?_)
    clear he34
    refine wl_call he35 hm4 rfl rfl _ #[.slice (none) (0) (0)] (enter_call _ _ _ rfl 6 #[] #[] rfl #[.slice (none) (0) (0)] (map1 (he35.tmp 44 _ rfl)) #[.slice (none) (0) (0)] rfl (fun _ _ => by kernel_rfl)) (.string (⟨#[]⟩)) (c_iput0 _ _ _) (fun a36 w5 he36 hm5 => ?_)
    clear he35 hm4
    refine wl_val he36 rfl rfl (.string (x1.1)) (rn_move _ (Or.inl rfl) _ (he36.tmp 3 _ rfl)) (fun a37 he37 => ?_)
    clear he36
    refine wl_val he37 rfl rfl (.bool true) (rn_seq _ (by simp) _ _ _ _ rfl _ _ (he37.tmp 45 _ rfl) (he37.tmp 46 _ rfl) _ (by first | (simp [hps]; done) | rw [if_pos rfl, hps] | rw [if_neg (by decide), hps])) (fun a38 he38 => ?_)
    clear he37
    refine wl_val he38 rfl rfl (.bool true) (rn_move _ (Or.inl rfl) _ (he38.tmp 47 _ rfl)) (fun a39 he39 => ?_)
    clear he38
    refine wl_val he39 rfl (wanted_slot he39 4 true rfl 48 rfl true rfl true rfl) (.slice (none) (0) (0)) (rn_move _ (Or.inl rfl) _ (he39.tmp 4 _ rfl)) (fun a40 he40 => ?_)
    clear he39
    refine wl_call he40 hm5 rfl (wanted_slot he40 4 true rfl 48 rfl true rfl true rfl) _ #[.slice (none) (0) (0)] (enter_call _ _ _ rfl 8 #[] #[] rfl #[.slice (none) (0) (0)] (map1 (he40.tmp 49 _ rfl)) #[.slice (none) (0) (0)] rfl (fun _ _ => by kernel_rfl)) (.bool true) (c_Oks0 _ _ _) (fun a41 w6 he41 hm6 => ?_)
    clear he40 hm5
    refine wl_val he41 rfl rfl (.bool true) (rn_pickT _ _ _ rfl (he41.tmp 48 _ rfl) _ (he41.tmp 50 _ rfl)) (fun a42 he42 => ?_)
    clear he41
    refine wl_val he42 rfl rfl (.bool true) (rn_move _ (Or.inr rfl) _ (he42.tmp 51 _ rfl)) (fun a43 he43 => ?_)
    clear he42
    refine wl_end ?_
    refine wp_ret ?_
    exact bodyPost_ret (results_tmp he43 _ Tryd.results4 _ rfl) he43.defers ⟨rfl, hm6.below⟩
   ·
    have hz : x1.1.size ≤ 1048576 := by have := hx1; omega
    have hcg := cat_get hg
    have hl6 : l.length ≤ 6 := hcg.2.1
    have hps : ((putR (fun i => l.getD i ru0) l.length).toList == (x1.1).toList) = true := by rw [put_cat hcg.1 hcg.2.1, hcg.2.2]; simp
    have hyo : ruOks (fun i => l.getD i ru0) l.length = true := put_yes hcg.1 hcg.2.1
    refine wl_callN he8 hm1 2 rfl rfl rfl _ #[.string (x1.1)] (enter_call _ _ _ rfl 10 #[] #[] rfl #[.string (x1.1)] (map1 (he8.tmp 14 _ rfl)) #[.string (x1.1)] rfl (fun _ _ => by kernel_rfl)) (c_iget_y _ _ hz (hT.kb hm1.keep rfl) l hg hne) (fun x2 b2 a9 w2 hx2 he9 hm2 => ?_)
    clear he8 hm1
    have rw2_n : Rw (x2.2) (l.length) (x2.1) 5 (cellsOf Ru.arr (l)) := hx2
    refine wl_val he9 rfl rfl (.tuple #[.slice (some ⟨b2, 0, none⟩) (l.length) (x2.1), .bool true]) (rn_move _ (Or.inl rfl) _ (he9.tmp 15 _ rfl)) (fun a10 he10 => ?_)
    clear he9
    refine wl_val he10 rfl rfl (.slice (some ⟨b2, 0, none⟩) (l.length) (x2.1)) (rn_extract _ _ rfl _ (he10.tmp 13 _ rfl) _ rfl) (fun a11 he11 => ?_)
    clear he10
    refine wl_val he11 rfl rfl (.bool true) (rn_extract _ _ rfl _ (he11.tmp 13 _ rfl) _ rfl) (fun a12 he12 => ?_)
    clear he11
    refine wl_val he12 rfl rfl (.slice (some ⟨b2, 0, none⟩) (l.length) (x2.1)) (rn_move _ (Or.inr rfl) _ (he12.tmp 16 _ rfl)) (fun a13 he13 => ?_)
    clear he12
    refine wl_val he13 rfl rfl (.bool true) (rn_move _ (Or.inr rfl) _ (he13.tmp 17 _ rfl)) (fun a14 he14 => ?_)
    clear he13
    refine wl_end ?_
    refine wp_seqR ?_
    refine wl_val he14 rfl rfl (.string (x1.1)) (rn_move _ (Or.inl rfl) _ (he14.tmp 3 _ rfl)) (fun a15 he15 => ?_)
    clear he14
    refine wl_callN he15 hm2 3 rfl rfl rfl _ #[.string (x1.1)] (enter_call _ _ _ rfl 13 #[] #[] rfl #[.string (x1.1)] (map1 (he15.tmp 19 _ rfl)) #[.string (x1.1)] rfl (fun _ _ => by kernel_rfl)) (c_spGet _ l _ hz hg) (fun x3 b3 a16 w3 hx3 he16 hm3 => ?_)
    clear he15 hm2
    have rw3_n : Rw (x3.2) (l.length) (x3.1) 5 (cellsOf Ru.arr (l)) := hx3
    refine wl_val he16 rfl rfl (.tuple #[.slice (some ⟨b3, 0, none⟩) (l.length) (x3.1), .bool true]) (rn_move _ (Or.inl rfl) _ (he16.tmp 20 _ rfl)) (fun a17 he17 => ?_)
    clear he16
    refine wl_val he17 rfl rfl (.slice (some ⟨b3, 0, none⟩) (l.length) (x3.1)) (rn_extract _ _ rfl _ (he17.tmp 18 _ rfl) _ rfl) (fun a18 he18 => ?_)
    clear he17
    refine wl_val he18 rfl rfl (.bool true) (rn_extract _ _ rfl _ (he18.tmp 18 _ rfl) _ rfl) (fun a19 he19 => ?_)
    clear he18
    refine wl_val he19 rfl rfl (.slice (some ⟨b3, 0, none⟩) (l.length) (x3.1)) (rn_move _ (Or.inr rfl) _ (he19.tmp 21 _ rfl)) (fun a20 he20 => ?_)
    clear he19
    refine wl_val he20 rfl rfl (.bool true) (rn_move _ (Or.inr rfl) _ (he20.tmp 22 _ rfl)) (fun a21 he21 => ?_)
    clear he20
    refine wl_end ?_
    refine wp_seq ?_
    refine wp_seqR ?_
    refine wl_val he21 rfl rfl (.bool true) (rn_move _ (Or.inl rfl) _ (he21.tmp 5 _ rfl)) (fun a22 he22 => ?_)
    clear he21
    refine wl_val he22 rfl rfl (.bool true) (rn_move _ (Or.inl rfl) _ (he22.tmp 7 _ rfl)) (fun a23 he23 => ?_)
    clear he22
    refine wl_val he23 rfl rfl (.bool false) (rn_binG _ _ _ _ _ rfl _ _ (he23.tmp 23 _ rfl) (he23.tmp 24 _ rfl) _ rfl (by kernel_rfl)) (fun a24 he24 => ?_)
    clear he23
    refine wl_val he24 rfl rfl (.bool false) (rn_move _ (Or.inl rfl) _ (he24.tmp 25 _ rfl)) (fun a25 he25 => ?_)
    clear he24
    refine wl_val he25 rfl (wanted_slot he25 3 false rfl 26 rfl false rfl true rfl) (.slice (some ⟨b2, 0, none⟩) (l.length) (x2.1)) (rn_move _ (Or.inl rfl) _ (he25.tmp 4 _ rfl)) (fun a26 he26 => ?_)
    clear he25
    refine wl_val he26 rfl (wanted_slot he26 3 false rfl 26 rfl false rfl true rfl) (.slice (some ⟨b3, 0, none⟩) (l.length) (x3.1)) (rn_move _ (Or.inl rfl) _ (he26.tmp 6 _ rfl)) (fun a27 he27 => ?_)
    clear he26
    refine wl_call he27 hm3 rfl (wanted_slot he27 3 false rfl 26 rfl false rfl true rfl) _ #[.slice (some ⟨b2, 0, none⟩) (l.length) (x2.1), .slice (some ⟨b3, 0, none⟩) (l.length) (x3.1)] (enter_call _ _ _ rfl 11 #[] #[] rfl #[.slice (some ⟨b2, 0, none⟩) (l.length) (x2.1), .slice (some ⟨b3, 0, none⟩) (l.length) (x3.1)] (map2 (he27.tmp 27 _ rfl) (he27.tmp 28 _ rfl)) #[.slice (some ⟨b2, 0, none⟩) (l.length) (x2.1), .slice (some ⟨b3, 0, none⟩) (l.length) (x3.1)] rfl (fun _ _ => by kernel_rfl)) (.bool true) (c_sg (fun i => l.getD i ru0) b2 0 l.length x2.1 b3 0 x3.1 _ (Rw.rowAt RuSz ru0 rw2_n rfl (hm3.bx 2 _ _ _ _ rfl)) (Rw.rowAt RuSz ru0 rw3_n rfl (hm3.bx 3 _ _ _ _ rfl)) (by omega)) (fun a28 w4 he28 hm4 => ?_)
    clear he27 hm3
    refine wl_val he28 rfl (wanted_slot he28 3 false rfl 26 rfl false rfl true rfl) (.bool false) (rn_un _ _ _ rfl _ (.bool (!true)) _ (he28.tmp 29 _ rfl) rfl rfl) (fun a29 he29 => ?_)
    clear he28
    refine wl_val he29 rfl rfl (.bool false) (rn_pickF _ _ _ rfl (he29.tmp 26 _ rfl) _ (he29.tmp 30 _ rfl)) (fun a30 he30 => ?_)
    clear he29
    refine wl_val he30 rfl rfl (.bool false) (rn_move _ (Or.inl rfl) _ (he30.tmp 31 _ rfl)) (fun a31 he31 => ?_)
    clear he30
    refine wl_val he31 rfl (wanted_slot he31 9 false rfl 32 rfl false rfl true rfl) (.bool true) (rn_move _ (Or.inl rfl) _ (he31.tmp 5 _ rfl)) (fun a32 he32 => ?_)
    clear he31
    refine wl_val he32 rfl (wanted_slot he32 9 false rfl 32 rfl false rfl true rfl) (.bool false) (rn_un _ _ _ rfl _ (.bool (!true)) _ (he32.tmp 33 _ rfl) rfl rfl) (fun a33 he33 => ?_)
    clear he32
    refine wl_val he33 rfl rfl (.bool false) (rn_pickF _ _ _ rfl (he33.tmp 32 _ rfl) _ (he33.tmp 34 _ rfl)) (fun a34 he34 => ?_)
    clear he33
    refine wl_end ?_
    refine wp_condF (he := he34) rfl ?_
    refine wp_skip ?_
    refine then_normal ?_
    refine wp_seqR ?_
    refine wl_val he34 rfl rfl (.slice (some ⟨b2, 0, none⟩) (l.length) (x2.1)) (rn_move _ (Or.inl rfl) _ (he34.tmp 4 _ rfl)) (fun a35 he35 => ?_)
    clear he34
    refine wl_call he35 hm4 rfl rfl _ #[.slice (some ⟨b2, 0, none⟩) (l.length) (x2.1)] (enter_call _ _ _ rfl 6 #[] #[] rfl #[.slice (some ⟨b2, 0, none⟩) (l.length) (x2.1)] (map1 (he35.tmp 44 _ rfl)) #[.slice (some ⟨b2, 0, none⟩) (l.length) (x2.1)] rfl (fun _ _ => by kernel_rfl)) (.string (putR (fun i => l.getD i ru0) l.length)) (c_iput (fun i => l.getD i ru0) b2 0 l.length x2.1 _ (Rw.rowAt RuSz ru0 rw2_n rfl (hm4.bx 2 _ _ _ _ rfl)) (by omega) (hT.kb hm4.keep rfl).t) (fun a36 w5 he36 hm5 => ?_)
    clear he35 hm4
    refine wl_val he36 rfl rfl (.string (x1.1)) (rn_move _ (Or.inl rfl) _ (he36.tmp 3 _ rfl)) (fun a37 he37 => ?_)
    clear he36
    refine wl_val he37 rfl rfl (.bool true) (rn_seq _ (by simp) _ _ _ _ rfl _ _ (he37.tmp 45 _ rfl) (he37.tmp 46 _ rfl) _ (by first | (simp [hps]; done) | rw [if_pos rfl, hps] | rw [if_neg (by decide), hps])) (fun a38 he38 => ?_)
    clear he37
    refine wl_val he38 rfl rfl (.bool true) (rn_move _ (Or.inl rfl) _ (he38.tmp 47 _ rfl)) (fun a39 he39 => ?_)
    clear he38
    refine wl_val he39 rfl (wanted_slot he39 4 true rfl 48 rfl true rfl true rfl) (.slice (some ⟨b2, 0, none⟩) (l.length) (x2.1)) (rn_move _ (Or.inl rfl) _ (he39.tmp 4 _ rfl)) (fun a40 he40 => ?_)
    clear he39
    refine wl_call he40 hm5 rfl (wanted_slot he40 4 true rfl 48 rfl true rfl true rfl) _ #[.slice (some ⟨b2, 0, none⟩) (l.length) (x2.1)] (enter_call _ _ _ rfl 8 #[] #[] rfl #[.slice (some ⟨b2, 0, none⟩) (l.length) (x2.1)] (map1 (he40.tmp 49 _ rfl)) #[.slice (some ⟨b2, 0, none⟩) (l.length) (x2.1)] rfl (fun _ _ => by kernel_rfl)) (.bool true) (callsV (congrArg Value.bool (hyo)) (c_Oks (fun i => l.getD i ru0) b2 0 l.length x2.1 _ (Rw.rowAt RuSz ru0 rw2_n rfl (hm5.bx 2 _ _ _ _ rfl)) (by omega))) (fun a41 w6 he41 hm6 => ?_)
    clear he40 hm5
    refine wl_val he41 rfl rfl (.bool true) (rn_pickT _ _ _ rfl (he41.tmp 48 _ rfl) _ (he41.tmp 50 _ rfl)) (fun a42 he42 => ?_)
    clear he41
    refine wl_val he42 rfl rfl (.bool true) (rn_move _ (Or.inr rfl) _ (he42.tmp 51 _ rfl)) (fun a43 he43 => ?_)
    clear he42
    refine wl_end ?_
    refine wp_ret ?_
    exact bodyPost_ret (results_tmp he43 _ Tryd.results4 _ rfl) he43.defers ⟨rfl, hm6.below⟩
  ·
   have hd1p := of_decide_eq_true hd1
   refine wl_val he3 rfl rfl (.bool true) (rn_bin _ _ _ _ _ rfl .i64 _ _ (he3.tmp 9 _ rfl) rfl (.bool (decide (((len : Nat) : Int) > 1048576))) _ rfl (congrArg Value.bool (hd1))) (fun a4 he4 => ?_)
   clear he3
   refine wl_end ?_
   refine wp_condT (he := he4) rfl ?_
   refine wp_seqR ?_
   refine wl_val he4 rfl rfl (.bool true) (rn_move _ (Or.inr rfl) _ rfl) (fun a5 he5 => ?_)
   clear he4
   refine wl_end ?_
   refine wp_ret ?_
   refine ret_then ?_
   exact bodyPost_ret (results_tmp he5 _ Tryd.results4 _ rfl) he5.defers ⟨rfl, hm0.below⟩
end Go.Proofs.YtkaekiodjjhjkaaDoor
