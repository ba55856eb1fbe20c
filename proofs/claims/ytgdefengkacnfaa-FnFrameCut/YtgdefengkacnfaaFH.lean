/- The walk of the law FnFrameCut. -/
import Derived.Test.YtgdefengkacnfaaFG
import Derived.Laws.AppendOwnNone
namespace Go.Proofs.Ytgdefengkacnfaa
open Go.RowKit
set_option linter.unusedVariables false
set_option linter.unusedSimpArgs false

theorem catF_take (xs : List ByteArray) (k : Nat) (h : k < xs.length) : catF (xs.take (k + 1)) = catF (xs.take k) ++ putF xs[k] := by
  have e : xs.take (k + 1) = xs.take k ++ [xs[k]] := by rw [List.take_add_one, List.getElem?_eq_getElem h]; rfl
  rw [e, catF, List.foldl_append]
  rfl
theorem catF_size : ∀ (xs : List ByteArray), (∀ x ∈ xs, isF x) → (catF xs).size ≤ 13 * xs.length := by
  intro xs
  have : ∀ (xs : List ByteArray), (∀ x ∈ xs, isF x) → (catL xs).length ≤ 13 * xs.length := by
    intro xs
    induction xs with
    | nil => simp [catL]
    | cons x xs ih =>
      intro h
      have h1 := ih (fun y hy => h y (by simp [hy]))
      have hx := h x (by simp)
      have h2 := put_size hx
      rw [size_list] at h2
      have : catL (x :: xs) = (putF x).data.toList ++ catL xs := by simp [catL]
      rw [this, List.length_append, h2]
      have := hx.2
      simp
      omega
  intro h
  have h1 := this xs h
  rw [size_list, catF_list]
  exact h1
theorem rest_le (s : ByteArray) : (cutF s).2.size ≤ s.size := by
  have h := (of_cut s.size s (Nat.le_refl _)).2.2
  have := congrArg List.length h
  rw [List.length_append, ← size_list, ← size_list] at this
  omega
theorem frames_are {s : ByteArray} : ∀ x ∈ (cutF s).1, isF x := (of_cut s.size s (Nat.le_refl _)).1

theorem wpList_wanted {P : Program} {w : World} {ops : Array Oper} {rest : List Oper} {o : Oper} {a : Act} {Q : Exit → Act → World → Prop} (hw : Region.wanted o (yielded ops a.tmps) = true)
    (h : ∀ K : Act → World → Prop, (∀ a w, wpList P ops Q rest a w → K a w) → o.wp P a w K Q) : wpList P ops Q (o :: rest) a w :=
  wpList_step fun K hK => by rw [if_pos hw]; exact h K hK
theorem wpList_append_rowG {P : Program} (w : World) {ops : Array Oper} {rest : List Oper} {o : Oper} {a : Act} {Q : Exit → Act → World → Prop} (hgd : Region.wanted o (yielded ops a.tmps) = true) (s x : Operand) (t : TypeId)
    (ho : o.op = .call { callee := .builtin .append, args := #[s, x], argTypes := #[t, t] })
    (base : Nat) (e : TypeId) (i : TypeInfo) (z : Value) (size bytes : Nat) (ht : P.underlying t = some (.slice e)) (hi : P.info? e = some i) (hz : i.zero = some z)
    (hsize : i.size = size) (hby : i.bytes = bytes) (hzs : z.cells.size = size) (hsz : 0 < size)
    (v : Value) (n : Nat) (xs : List Value) (hs : a.eval s = v) (hown : w.ownsRow base e size v n xs)
    (base2 : Nat) (v2 : Value) (m : Nat) (news : List Value) (hx : a.eval x = v2) (hsrc : w.ownsRow base2 e size v2 m news) (h1 : ∀ u ∈ news, u.oneCell' = true)
    (h63 : n + m ≤ maxLen) (hbytes : (n + m) * bytes ≤ 140737488355328) (hbase : base ≤ w.heap.size)
    (h : ∀ v' w', w'.ownsRow base e size v' (n + m) (xs ++ news) → w.grownBy w' v.ownBlock → (v' = .slice none 0 0 ↔ v = .slice none 0 0 ∧ m = 0) → wpList P ops Q rest (a.put o.dst v') w') : wpList P ops Q (o :: rest) a w := by
  have hsrc' := hsrc
  rcases hsrc.2 with ⟨rfl, rfl⟩ | ⟨g, cap, cur, rfl, _, hg, hc, hcm, hcs, htk⟩
  · have hl : news = [] := List.length_eq_zero_iff.1 (by have := hsrc.1; omega)
    subst hl
    have hrun := run_append_owned_none (P := P) (w := w) base t o.type e i size ht hi v n xs hown
    refine wpList_wanted hgd fun K hK => ?_
    unfold Oper.wp
    simp [execOp, ho, resolve, invoke, builtin, hs, hx, hrun, Result.andThen]
    exact hK _ _ (h v w (by simpa using hown) ⟨rfl, rfl, rfl, Nat.le_refl _, fun _ _ _ => rfl⟩ (by simp))
  · refine wpList_wanted hgd fun K hK => ?_
    refine wp_append_own w s x t ho base e i z size bytes ht hi hz hsize hby hzs hsz v n xs hs hown ⟨g, 0, none⟩ m cap news hx hsrc.1 (fun j u hj => ?_) h1 h63 hbytes hbase fun v' w' h2 h3 h4 => hK _ _ (h v' w' h2 h3 h4)
    have hj' : j < news.length := (List.getElem?_eq_some_iff.1 hj).1
    have hj2 := hsrc.1
    rw [Addr.add_lit, Nat.zero_add, hsrc'.cellAt j (by omega)]
    exact hj
set_option maxRecDepth 100000 in
set_option maxHeartbeats 4000000 in
theorem law_fnFrameCut (w : World) (a : Option Addr) (len cap : Nat) (hc : len ≤ cap) (hs : Src w a len) (hl : cap < 2 ^ 63) (a' : Option Addr) (len' cap' : Nat) (hc' : len' ≤ cap') (hs' : Src w a' len') (hl' : cap' < 2 ^ 63) :
    Calls Try.prog 4 #[.slice a len cap, .slice a' len' cap'] w fun e w' => e = .returned (.bool true) ∧ Below w.heap.size w w' := by
  obtain ⟨j0, hj, hy0, hy1, hy2⟩ := info_parts info9
  have HS := hid hs
  clear hs hs' hl' hc'
  by_cases g1 : (len : Int) ≤ 1048576
  case neg =>
    have g1' : (1048576 : Int) < (len : Int) := by omega
    clear g1
    go_enter Try.func4, Try.ntmps4
    go_wp2_with fail
    go_ret
    exact ⟨rfl, Below.refl _ _⟩
  by_cases g2 : (len' : Int) ≤ 1048576
  case neg =>
    have g2' : (1048576 : Int) < (len' : Int) := by omega
    clear g2
    go_enter Try.func4, Try.ntmps4
    go_wp2_with fail
    go_ret
    exact ⟨rfl, Below.refl _ _⟩
  go_enter Try.func4, Try.ntmps4
  go_wp2_with fail
  refine (drawCut_w w a len cap hc HS.out hl).mono ?_
  rintro e w1 ⟨v, rfl, hv, b1⟩
  clear HS
  go_wp2_with fail
  refine (cut_c v _ (by omega)).mono ?_
  rintro e w2 ⟨ws, r, q, x2, rfl, hr, hwl, o2, b2⟩
  rw [if_pos (by omega)] at hr
  simp only [Prod.mk.injEq] at hr
  obtain ⟨hr1, hr2, hr3⟩ := hr
  obtain ⟨a2, c2, rfl, A2, _, _⟩ := own_strs o2
  have HA2 := hid A2
  have H1 := hid hr1
  have H2 := hid hr2
  have H3 := hid hr3
  have HB := hid (bto b1 b2)
  clear b1 b2 o2 A2 hr1 hr2 hr3
  go_wp2_with fail
  refine (scut_c v _ (by omega)).mono ?_
  rintro e w3 ⟨ws', r', q', x3, rfl, hr, hwl', o3, b3⟩
  rw [if_pos (by omega), ← H3.out, ← H1.out, ← H2.out] at hr
  simp only [Prod.mk.injEq] at hr
  obtain ⟨rfl, rfl, rfl⟩ := hr
  obtain ⟨a3, c3, rfl, A3, _, _⟩ := own_strs o3
  have HA3 := hid A3
  replace HB := hid (bto HB.out b3)
  replace HA2 := hid (HA2.out.below b3 (Nat.le_refl _))
  clear b3 o3 A3
  cases hq : q'
  · subst hq
    go_wp2_with fail
    refine (sgTexts_c ws' _ _ _ _ _ HA2.out HA3.out (by omega)).mono ?_
    rintro e w4 ⟨rfl, b4⟩
    replace HB := hid (bto HB.out b4)
    replace HA2 := hid (HA2.out.below b4 (Nat.le_refl _))
    replace HA3 := hid (HA3.out.below b4 (Nat.le_refl _))
    clear b4
    go_wp2_with fail
    refine (sgTexts_c ws' _ _ _ _ _ HA2.out HA3.out (by omega)).mono ?_
    rintro e w5 ⟨rfl, b5⟩
    replace HB := hid (bto HB.out b5)
    clear b5
    go_wp2_with fail
    go_ret
    exact ⟨rfl, HB.out⟩
  · subst hq
    go_wp2_with fail
    refine (sgTexts_c ws' _ _ _ _ _ HA2.out HA3.out (by omega)).mono ?_
    rintro e w4 ⟨rfl, b4⟩
    replace HB := hid (bto HB.out b4)
    replace HA2 := hid (HA2.out.below b4 (Nat.le_refl _))
    clear b4 HA3
    go_wp2_with fail
    go_loopw [12, 13] (fun sv i wr => ∃ k : Nat, k ≤ ws'.length ∧ i = .int .i64 k ∧ sv = .string (catF (ws'.take k)) ∧ ArgS wr a2 ws' ∧ Below w.heap.size w wr) (fun _ i _ => ws'.length - (intOf i).toNat)
    case atStart => exact ⟨0, Nat.zero_le _, rfl, rfl, HA2.out, HB.out⟩
    case round =>
      clear HA2 HB
      obtain ⟨k, hk, rfl, rfl, hA, hbw⟩ := hrel
      have HA2 := hid hA
      have HB := hid hbw
      clear hA hbw
      have hcs : (catF (ws'.take k)).size ≤ 2000 := by
        have := catF_size (ws'.take k) (fun x hx => by have h := List.mem_of_mem_take hx; rw [H1.out] at h; exact frames_are x h)
        simp at this
        omega
      by_cases hlt : k < ws'.length
      · have hlt' : (k : Int) < (ws'.length : Int) := by omega
        have hk0 : (0 : Int) ≤ (k : Int) := by omega
        have hnext := catF_take ws' k hlt
        obtain ⟨b, p, rfl, hb, hcell⟩ := HA2.out.at k hlt
        obtain ⟨x, hx⟩ : ∃ x, x = ws'[k] := ⟨_, rfl⟩
        have hxs : x.size ≤ 12 := by
          have h := List.getElem_mem hlt
          rw [← hx, H1.out] at h
          exact (frames_are x h).2
        rw [← hx] at hcell hnext
        have HN := hid hnext
        clear hx hnext
        generalize catF (ws'.take k) = t at *
        have htI : (t.size : Int) ≤ 2000 := by omega
        go_wp2_with fail
        refine (fput_c x _).mono ?_
        rintro e w5 ⟨rfl, b5⟩
        replace HB := hid (bto HB.out b5)
        replace HA2 := hid (HA2.out.below b5 (Nat.le_refl _))
        have hps := putF_size x
        have hpI : ((putF x).size : Int) ≤ 13 := by omega
        clear b5 hcell
        generalize putF x = y at *
        go_wp2_with fail
        go_roundw
        case rel => exact ⟨k + 1, by omega, by go_num, by rw [HN.out], HA2.out, HB.out⟩
        case measure => simp [intOf]; omega
      · obtain rfl : k = ws'.length := by omega
        have hall : catF (ws'.take ws'.length) ++ r' = v := by rw [List.take_length, H1.out, H2.out]; exact cut_back v
        generalize catF (ws'.take ws'.length) = t at *
        have hallH := hid hall
        obtain ⟨k, hk0⟩ : ∃ k : Nat, len' % (v.size + 1) = k := ⟨_, rfl⟩
        have hk1 : k ≤ v.size := by have := Nat.mod_lt len' (show 0 < v.size + 1 by omega); omega
        have hm1 : (len' : Int).tmod ((v.size : Int) + 1) = (k : Int) := by
          rw [Int.tmod_eq_emod_of_nonneg (by omega), ← hk0]; simp
        have hm2 : (len' : Int) % ((v.size : Int) + 1) = (k : Int) := by
          rw [← hk0]; simp
        have hkI : (k : Int) ≤ (v.size : Int) := by omega
        have hk00 : (0 : Int) ≤ (k : Int) := by omega
        have hvI : (v.size : Int) ≤ 60 := by omega
        have hrl : r'.size ≤ v.size := by rw [H2.out]; exact rest_le v
        have hrI : (r'.size : Int) ≤ 60 := by omega
        have htI : (t.size : Int) ≤ 2000 := by omega
        obtain ⟨e1, e2, e3⟩ := cut_two v k hk1 H3.out.symm
        have E1 := hid e1
        have E2 := hid e2
        have E3 := hid e3
        clear hk0 e1 e2 e3 hall
        go_wp2_with fail
        refine (cut_c (v.extract 0 k) _ (by simp; omega)).mono ?_
        rintro e w6 ⟨wa, x, one, xa, rfl, ha, hla, oa, b6⟩
        rw [if_pos (by simp; omega)] at ha
        simp only [Prod.mk.injEq] at ha
        obtain ⟨ha1, ha2, ha3⟩ := ha
        rw [E1.out] at ha3
        subst ha3
        have hxl : x.size ≤ k := by
          rw [ha2]; have := rest_le (v.extract 0 k); rw [ByteArray.size_extract] at this; omega
        rw [← ha2] at E2 E3
        rw [← ha1] at E3
        replace HB := hid (bto HB.out b6)
        replace HA2 := hid (HA2.out.below b6 (Nat.le_refl _))
        have HOA := hid oa
        clear ha1 ha2 E1 b6 oa
        have hxI : (x.size : Int) ≤ (k : Int) := by omega
        go_wp2_with fail
        refine (cut_c (x ++ v.extract k v.size) _ (by rw [ByteArray.size_append, ByteArray.size_extract]; omega)).mono ?_
        rintro e w7 ⟨wb, y, two, xb, rfl, hb, hlb, ob, b7⟩
        rw [if_pos (by rw [ByteArray.size_append, ByteArray.size_extract]; omega)] at hb
        simp only [Prod.mk.injEq] at hb
        obtain ⟨hb1, hb2, hb3⟩ := hb
        rw [E2.out] at hb2 hb3
        rw [← H2.out] at hb2 hb3
        rw [H2.out, ← H3.out] at hb3
        subst hb2 hb3
        rw [← hb1, ← H1.out] at E3
        replace HB := hid (bto HB.out b7)
        replace HA2 := hid (HA2.out.below b7 (Nat.le_refl _))
        replace HOA := hid (own_below HOA.out b7)
        have HOB := hid ob
        have hsz := HB.out.size
        clear hb1 E2 b7 ob
        have c8 : Below w7.heap.size w7 (w7.alloc (.cells #[] 9)) := (Below.refl _ _).alloc (Nat.le_refl _) _
        have O8 := hid (made0 w7 w7.heap.size w7.heap.size 9 rfl (Nat.le_refl _))
        have HOA8 := hid (own_below HOA.out c8)
        have HOB8 := hid (own_below HOB.out c8)
        have HA8 := hid (HA2.out.below c8 (Nat.le_refl _))
        have HB8 := hid (bto HB.out c8)
        clear c8 HOA
        obtain ⟨pa, ca, rfl⟩ := own_slice HOA8.out
        obtain ⟨pb, cb, rfl⟩ := own_slice HOB8.out
        have hall := hallH.out
        clear hallH
        have hsz8 : w7.heap.size ≤ (w7.alloc (.cells #[] 9)).heap.size := by simp
        have hn1 : ∀ l : List ByteArray, ∀ u ∈ l.map Value.string, u.oneCell' = true := by
          intro l u hu
          obtain ⟨y, _, rfl⟩ := List.mem_map.1 hu
          rfl
        have HN1 := hid hn1
        clear hn1
        go_wp2_with (first | (at_builtin; go_must (refine wpList_append_rowG _ (by rfl) _ _ 25 rfl w7.heap.size 9 j0 (.string ⟨#[]⟩) 1 16 Try.underlying25 hj hy0 hy1 hy2 rfl (by decide) _ _ _ rfl O8.out _ _ _ _ rfl HOA8.out (HN1.out wa) ?c3 ?c4 hsz8 ?_)))
        case c3 => unfold maxLen; omega
        case c4 => omega
        intro v1 w8 o8 g8 _
        have o9 : w8.ownsRow w7.heap.size 9 1 v1 wa.length (wa.map .string) := by simpa using o8
        have b8 : Below w7.heap.size w7 w8 := ((Below.refl w7.heap.size w7).alloc (Nat.le_refl _) _).grown g8 (by simp) (own_base O8.out)
        have HO9 := hid o9
        have HOB9 := hid (own_below HOB.out b8)
        have hsz9 : w7.heap.size ≤ w8.heap.size := b8.size
        have HB9 := hid b8
        clear o8 g8 o9 b8 O8 HOA8 HOB8 HA8 HB8
        obtain ⟨p1, q1, rfl⟩ := own_slice HO9.out
        go_wp2_with (first | (at_builtin; go_must (refine wpList_append_rowG _ (by rfl) _ _ 25 rfl w7.heap.size 9 j0 (.string ⟨#[]⟩) 1 16 Try.underlying25 hj hy0 hy1 hy2 rfl (by decide) _ _ _ rfl HO9.out _ _ _ _ rfl HOB9.out (HN1.out wb) ?c5 ?c6 hsz9 ?_)))
        case c5 => unfold maxLen; omega
        case c6 => omega
        intro v2 w9 o9 g9 _
        have hbb : Below w7.heap.size w7 w9 := HB9.out.grown g9 hsz9 (own_base HO9.out)
        have e4 : (ws'.map Value.string) = wa.map Value.string ++ wb.map Value.string := by rw [← E3.out]; simp
        have e5 : ws'.length = wa.length + wb.length := by rw [← E3.out]; simp
        have o10 : w9.ownsRow w7.heap.size 9 1 v2 ws'.length (ws'.map .string) := by rw [e4, e5]; exact o9
        obtain ⟨p2, q2, rfl, A9, _, _⟩ := own_strs o10
        have HA9 := hid A9
        have HA10 := hid (HA2.out.below hbb (Nat.le_refl _))
        have HB10 := hid (bto HB.out hbb)
        clear o9 g9 hbb e4 e5 o10 A9 HB HA2 HB9 HO9 HOB9 HOB E3
        go_wp2_with fail
        refine (sgTexts_c ws' _ _ _ _ _ HA9.out HA10.out (by omega)).mono ?_
        rintro e w11 ⟨rfl, b11⟩
        replace HB10 := hid (bto HB10.out b11)
        go_wp2_with fail
        go_ret
        exact ⟨by simp, HB10.out⟩
end Go.Proofs.Ytgdefengkacnfaa
