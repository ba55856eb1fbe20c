/- The specification's TableDrop. -/
import Derived.Test.YtahbicegmioplaaDS
import Derived.Test.YtahbicegmioplaaKU
namespace Go.Proofs.Ytahbicegmioplaa
open Go.RowKit
set_option linter.unusedVariables false
set_option linter.unusedSimpArgs false


theorem SlV.pos {w : World} {a : Option Addr} {n c : Nat} {xs : List Value} (h : SlV w (.slice a n c) n xs) (hn : 0 < n) : ∃ g, a = some ⟨g, 0, none⟩ := by
  rcases h.2 with ⟨_, h1⟩ | ⟨g, c', e, _⟩
  · omega
  · simp only [Value.slice.injEq] at e
    exact ⟨g, e.1⟩
theorem SlV.cell {w : World} {g n c : Nat} {xs : List Value} (h : SlV w (.slice (some ⟨g, 0, none⟩) n c) n xs) (j : Nat) (hj : j < n) : w.cell? ⟨g, j, none⟩ = xs[j]? := by
  rcases h.2 with ⟨h0, _⟩ | ⟨g', c', e, _, hc⟩
  · simp at h0
  · simp only [Value.slice.injEq, Option.some.injEq, Addr.mk.injEq, and_true, true_and] at e
    rw [e.1]
    exact hc j hj
theorem SlV.front {w : World} {g n c i : Nat} {xs : List Value} (h : SlV w (.slice (some ⟨g, 0, none⟩) n c) n xs) (hi : i < n) : ∀ j u, (xs.take i)[j]? = some u → w.cell? ((⟨g, 0, none⟩ : Addr).add j) = some u := by
  intro j u hj
  have hl : j < (xs.take i).length := (List.getElem?_eq_some_iff.1 hj).1
  rw [List.length_take] at hl
  rw [Addr.add_lit, Nat.zero_add, h.cell j (by omega), ← hj, List.getElem?_take, if_pos (by omega)]
theorem SlV.back {w : World} {g n c i o : Nat} {xs : List Value} (h : SlV w (.slice (some ⟨g, 0, none⟩) n c) n xs) (ho : o = i + 1 ∨ n = i + 1) : ∀ j u, (xs.drop (i + 1))[j]? = some u → w.cell? ((⟨g, o, none⟩ : Addr).add j) = some u := by
  intro j u hj
  have hl : j < (xs.drop (i + 1)).length := (List.getElem?_eq_some_iff.1 hj).1
  rw [List.length_drop, h.1] at hl
  rcases ho with rfl | ho
  · rw [Addr.add_lit, h.cell (i + 1 + j) (by omega), ← hj, List.getElem?_drop]
  · omega
theorem filter_once {ps : List Pr} {key : Int} {i : Nat} (hi : i < ps.length) (he : (ps[i].1 == key) = true) (hn : ∀ j (h : j < ps.length), j ≠ i → (ps[j].1 == key) = false) : ps.filter (fun x => x.1 != key) = ps.take i ++ ps.drop (i + 1) := by
  have e : ps = ps.take i ++ (ps[i] :: ps.drop (i + 1)) := by rw [List.getElem_cons_drop, List.take_append_drop]
  conv => lhs; rw [e]
  rw [List.filter_append, List.filter_cons]
  have h1 : (ps[i].1 != key) = false := by simp at he ⊢; exact he
  rw [h1]
  simp only [Bool.false_eq_true, if_false]
  congr 1
  · rw [List.filter_eq_self]
    intro x hx
    obtain ⟨j, hj, rfl⟩ := List.getElem_of_mem hx
    rw [List.length_take] at hj
    have := hn j (by omega) (by omega)
    rw [List.getElem_take]
    simp at this ⊢
    exact this
  · rw [List.filter_eq_self]
    intro x hx
    obtain ⟨j, hj, rfl⟩ := List.getElem_of_mem hx
    rw [List.length_drop] at hj
    have := hn (i + 1 + j) (by omega) (by omega)
    rw [List.getElem_drop]
    simp at this ⊢
    exact this
theorem once_at {k s r : Int} {ks : List Int} {vs : List ByteArray} {key : Int} {i : Nat} (h : OkP k s r ks vs) (hi : i < ks.length) (he : (ks[i] == key) = true) : ∀ j (hj : j < ks.length), j ≠ i → (ks[j] == key) = false := by
  intro j hj hne
  have he' : ks[i] = key := by simpa using he
  subst he'
  simp only [beq_eq_false_iff_ne, ne_eq]
  rcases Nat.lt_or_ge j i with h1 | h1
  · exact h.good.once i hi hi j h1
  · exact fun e => h.good.once j hj hj i (by omega) e.symm
theorem drop_none {k s r : Int} {ks : List Int} {vs : List ByteArray} {key : Int} (hok : okB k s r ks vs = true) (hno : ∀ j (h : j < ks.length), (ks[j] == key) = false) : dropT k s r ks vs key = (⟨k, s, r, ks, vs, 0⟩, false) := by
  unfold dropT
  rw [if_pos hok, look_not hno]
  rfl
theorem drop_row {k s r : Int} {ks : List Int} {vs : List ByteArray} {key : Int} {i : Nat} (hok : okB k s r ks vs = true) (hk : k = 1) (hi : i < ks.length) (he : (ks[i] == key) = true) (hno : ∀ j (h : j < ks.length), j < i → (ks[j] == key) = false) : dropT k s r ks vs key = (⟨k, s, r, ks, vs.set i (zerosB s.toNat), 0⟩, true) := by
  have hP := okB_true.1 hok
  have hl := (shape2_len hP.shape).1
  have hu := once_at hP hi he
  have ha : anyK (ks.zip vs) key = true := by
    simp only [anyK, List.any_eq_true]
    exact ⟨(ks[i], vs[i]), by have := List.getElem_mem (l := ks.zip vs) (n := i) (by simp; omega); simpa using this, he⟩
  unfold dropT
  rw [if_pos hok, look_there hl hi he hno, if_pos rfl, if_pos hk]
  unfold putP
  rw [if_pos ha, putO_fst, putO_snd hl hi he hu, List.map_fst_zip (by omega)]
theorem drop_hash {k s r : Int} {ks : List Int} {vs : List ByteArray} {key : Int} {i : Nat} (hok : okB k s r ks vs = true) (hk : k ≠ 1) (hi : i < ks.length) (he : (ks[i] == key) = true) (hno : ∀ j (h : j < ks.length), j < i → (ks[j] == key) = false) : dropT k s r ks vs key = (⟨k, s, r, ks.take i ++ ks.drop (i + 1), vs.take i ++ vs.drop (i + 1), 0⟩, true) := by
  have hP := okB_true.1 hok
  have hl := (shape2_len hP.shape).1
  have hu := once_at hP hi he
  unfold dropT
  rw [if_pos hok, look_there hl hi he hno, if_pos rfl, if_neg hk]
  unfold dropP
  rw [filter_once (i := i) (by simp; omega) (by simpa using he) (fun j hj hne => by have := hu j (by simp at hj; omega) hne; simpa using this)]
  rw [List.map_append, List.map_append, List.map_take, List.map_drop, List.map_take, List.map_drop, List.map_fst_zip (by omega), List.map_snd_zip (by omega)]

set_option maxRecDepth 100000 in
set_option maxHeartbeats 4000000 in
theorem drop_bad (k s r : Int) (ks : List Int) (vs : List ByteArray) (a b : Option Addr) (c d : Nat) (key : Int) (w : World) (hI : SlV w (.slice a ks.length c) ks.length (ks.map (.int .i64))) (hS : SlV w (.slice b vs.length d) vs.length (vs.map .string)) (hc : ks.length ≤ c) (hd : vs.length ≤ d) (hcm : c ≤ maxLen) (hdm : d ≤ maxLen) (hkm : ks.length ≤ 1048576) (hvm : vs.length ≤ 1048576) (HOK : Hid (okB k s r ks vs = false)) (HD : Hid (dropT k s r ks vs key = (⟨0, 0, 0, [], [], 0⟩, false))) :
    Calls Try.prog 22 #[.agg #[.int .i64 k, .int .i64 s, .int .i64 r, .slice a ks.length c, .slice b vs.length d], .int .i64 key] w fun e w' => ∃ V, e = .returned (.tuple #[V, .bool (dropT k s r ks vs key).2]) ∧ Tab w.heap.size w' (dropT k s r ks vs key).1.k (dropT k s r ks vs key).1.s (dropT k s r ks vs key).1.r (dropT k s r ks vs key).1.ks (dropT k s r ks vs key).1.vs V ∧ Below w.heap.size w w' := by
  have HI := hid hI
  have HS := hid hS
  clear hI hS
  go_enter Try.func22, Try.ntmps22
  go_wp2_with fail
  have h1 : Box5 (w.alloc (.cells #[.int .i64 k, .int .i64 s, .int .i64 r, .slice a ks.length c, .slice b vs.length d] 28)) w.heap.size k s r (.slice a ks.length c) (.slice b vs.length d) := World.alloc_heap_new w _
  have HT := hid (Box5.kept h1 (World.grownBy_alloc _ (.cells #[.int .i64 0, .int .i64 0, .int .i64 0, .slice none 0 0, .slice none 0 0] 28) none) (by simp))
  have h2 : Box5 ((w.alloc (.cells #[.int .i64 k, .int .i64 s, .int .i64 r, .slice a ks.length c, .slice b vs.length d] 28)).alloc (.cells #[.int .i64 0, .int .i64 0, .int .i64 0, .slice none 0 0, .slice none 0 0] 28)) (w.alloc (.cells #[.int .i64 k, .int .i64 s, .int .i64 r, .slice a ks.length c, .slice b vs.length d] 28)).heap.size 0 0 0 (.slice none 0 0) (.slice none 0 0) := World.alloc_heap_new _ _
  simp only [World.size_alloc] at h2
  have HQ := hid h2
  clear h1 h2
  have HZ : Hid (Below w.heap.size w ((w.alloc (.cells #[.int .i64 k, .int .i64 s, .int .i64 r, .slice a ks.length c, .slice b vs.length d] 28)).alloc (.cells #[.int .i64 0, .int .i64 0, .int .i64 0, .slice none 0 0, .slice none 0 0] 28))) := ((Below.refl _ w).alloc (Nat.le_refl _) _).alloc (by simp) _
  generalize (w.alloc (.cells #[.int .i64 k, .int .i64 s, .int .i64 r, .slice a ks.length c, .slice b vs.length d] 28)).alloc (.cells #[.int .i64 0, .int .i64 0, .int .i64 0, .slice none 0 0, .slice none 0 0] 28) = w1 at *
  refine (f28b k s r ks vs a b c d _ (SlV.I (HI.out.below HZ.out)) (SlV.S (HS.out.below HZ.out))).mono ?_
  rw [HOK.out]
  rintro e w2 ⟨rfl, hb2⟩
  replace HT := hid (HT.out.bel hb2)
  replace HQ := hid (HQ.out.bel hb2)
  replace HZ := hid (HZ.out.to hb2)
  clear hb2
  have B5' := hid (st5_below (w.heap.size + 1) 0 0 0 (.slice none 0 0) (.slice none 0 0) HZ.out (by omega))
  have P5 := hid (Box5.cells (Box5.st5 HQ.out (k' := 0) (s' := 0) (r' := 0) (v' := .slice none 0 0) (u' := .slice none 0 0)))
  obtain ⟨x0, x1, x2, x3, x4⟩ := Box5.cells HT.out
  have xl := Box5.lt HT.out
  have xf := Box5.frozen HT.out
  obtain ⟨y0, y1, y2, y3, y4⟩ := Box5.cells HQ.out
  have yl := Box5.lt HQ.out
  have yf := Box5.frozen HQ.out
  go_wp2_with fail
  obtain ⟨p0, p1, p2, p3, p4⟩ := P5.out
  unfold st5 at p0 p1 p2 p3 p4
  refine bodyPost_ret (v := .tuple #[.agg #[.int .i64 0, .int .i64 0, .int .i64 0, .slice none 0 0, .slice none 0 0], .bool false]) (by simp [results, Try.results22, go_sem, p0, p1, p2, p3, p4]) rfl ?_
  rw [HD.out]
  exact ⟨_, rfl, Tab.nil _ _ _ _ _, B5'.out⟩

set_option maxRecDepth 100000 in
set_option maxHeartbeats 4000000 in
theorem drop_not (k s r : Int) (ks : List Int) (vs : List ByteArray) (a b : Option Addr) (c d : Nat) (key : Int) (w : World) (hI : SlV w (.slice a ks.length c) ks.length (ks.map (.int .i64))) (hS : SlV w (.slice b vs.length d) vs.length (vs.map .string)) (hc : ks.length ≤ c) (hd : vs.length ≤ d) (hcm : c ≤ maxLen) (hdm : d ≤ maxLen) (hkm : ks.length ≤ 1048576) (hvm : vs.length ≤ 1048576) (HOK : Hid (okB k s r ks vs = true)) (HAT : Hid (atI ks key = -1)) (HD : Hid (dropT k s r ks vs key = (⟨k, s, r, ks, vs, 0⟩, false))) :
    Calls Try.prog 22 #[.agg #[.int .i64 k, .int .i64 s, .int .i64 r, .slice a ks.length c, .slice b vs.length d], .int .i64 key] w fun e w' => ∃ V, e = .returned (.tuple #[V, .bool (dropT k s r ks vs key).2]) ∧ Tab w.heap.size w' (dropT k s r ks vs key).1.k (dropT k s r ks vs key).1.s (dropT k s r ks vs key).1.r (dropT k s r ks vs key).1.ks (dropT k s r ks vs key).1.vs V ∧ Below w.heap.size w w' := by
  have HI := hid hI
  have HS := hid hS
  clear hI hS
  go_enter Try.func22, Try.ntmps22
  go_wp2_with fail
  have h1 : Box5 (w.alloc (.cells #[.int .i64 k, .int .i64 s, .int .i64 r, .slice a ks.length c, .slice b vs.length d] 28)) w.heap.size k s r (.slice a ks.length c) (.slice b vs.length d) := World.alloc_heap_new w _
  have HT := hid (Box5.kept h1 (World.grownBy_alloc _ (.cells #[.int .i64 0, .int .i64 0, .int .i64 0, .slice none 0 0, .slice none 0 0] 28) none) (by simp))
  have h2 : Box5 ((w.alloc (.cells #[.int .i64 k, .int .i64 s, .int .i64 r, .slice a ks.length c, .slice b vs.length d] 28)).alloc (.cells #[.int .i64 0, .int .i64 0, .int .i64 0, .slice none 0 0, .slice none 0 0] 28)) (w.alloc (.cells #[.int .i64 k, .int .i64 s, .int .i64 r, .slice a ks.length c, .slice b vs.length d] 28)).heap.size 0 0 0 (.slice none 0 0) (.slice none 0 0) := World.alloc_heap_new _ _
  simp only [World.size_alloc] at h2
  have HQ := hid h2
  clear h1 h2
  have HZ : Hid (Below w.heap.size w ((w.alloc (.cells #[.int .i64 k, .int .i64 s, .int .i64 r, .slice a ks.length c, .slice b vs.length d] 28)).alloc (.cells #[.int .i64 0, .int .i64 0, .int .i64 0, .slice none 0 0, .slice none 0 0] 28))) := ((Below.refl _ w).alloc (Nat.le_refl _) _).alloc (by simp) _
  generalize (w.alloc (.cells #[.int .i64 k, .int .i64 s, .int .i64 r, .slice a ks.length c, .slice b vs.length d] 28)).alloc (.cells #[.int .i64 0, .int .i64 0, .int .i64 0, .slice none 0 0, .slice none 0 0] 28) = w1 at *
  refine (f28b k s r ks vs a b c d _ (SlV.I (HI.out.below HZ.out)) (SlV.S (HS.out.below HZ.out))).mono ?_
  rw [HOK.out]
  rintro e w2 ⟨rfl, hb2⟩
  replace HT := hid (HT.out.bel hb2)
  replace HQ := hid (HQ.out.bel hb2)
  replace HZ := hid (HZ.out.to hb2)
  clear hb2
  obtain ⟨x0, x1, x2, x3, x4⟩ := Box5.cells HT.out
  have xl := Box5.lt HT.out
  have xf := Box5.frozen HT.out
  go_wp2_with fail
  clear x0 x1 x2 x3 x4 xl xf
  refine (f49s k s r ks vs a b c d _ (HI.out.below HZ.out) (HS.out.below HZ.out) hkm hvm).mono ?_
  rintro e w3 ⟨V, rfl, ht, hb3⟩
  obtain ⟨v, u, rfl, r1, r2⟩ := ht
  obtain ⟨a3, c3, rfl⟩ := own_slice r1
  obtain ⟨b3, d3, rfl⟩ := own_slice r2
  have RI := hid (own_mono r1 HZ.out.size)
  have RS := hid (own_mono r2 HZ.out.size)
  clear r1 r2
  replace HT := hid (HT.out.bel hb3)
  replace HQ := hid (HQ.out.bel hb3)
  replace HZ := hid (HZ.out.to hb3)
  clear hb3
  obtain ⟨x0, x1, x2, x3, x4⟩ := Box5.cells HT.out
  have xl := Box5.lt HT.out
  have xf := Box5.frozen HT.out
  go_wp2_with fail
  clear x0 x1 x2 x3 x4 xl xf
  have ho : Box5 (w3.alloc (.cells #[.int .i64 k, .int .i64 s, .int .i64 r, .slice a3 ks.length c3, .slice b3 vs.length d3] 28)) w3.heap.size k s r (.slice a3 ks.length c3) (.slice b3 vs.length d3) := World.alloc_heap_new w3 _
  have HO := hid ho
  clear ho
  have lOT := Box5.lt HT.out
  have lOQ := Box5.lt HQ.out
  replace HT := hid (HT.out.alloc (.cells #[.int .i64 k, .int .i64 s, .int .i64 r, .slice a3 ks.length c3, .slice b3 vs.length d3] 28))
  replace HQ := hid (HQ.out.alloc (.cells #[.int .i64 k, .int .i64 s, .int .i64 r, .slice a3 ks.length c3, .slice b3 vs.length d3] 28))
  replace RI := hid (own_below RI.out ((Below.refl _ _).alloc (Nat.le_refl _) (.cells #[.int .i64 k, .int .i64 s, .int .i64 r, .slice a3 ks.length c3, .slice b3 vs.length d3] 28)))
  replace RS := hid (own_below RS.out ((Below.refl _ _).alloc (Nat.le_refl _) (.cells #[.int .i64 k, .int .i64 s, .int .i64 r, .slice a3 ks.length c3, .slice b3 vs.length d3] 28)))
  replace HZ := hid (HZ.out.alloc HZ.out.size (.cells #[.int .i64 k, .int .i64 s, .int .i64 r, .slice a3 ks.length c3, .slice b3 vs.length d3] 28))
  generalize w3.alloc (.cells #[.int .i64 k, .int .i64 s, .int .i64 r, .slice a3 ks.length c3, .slice b3 vs.length d3] 28) = w4 at *
  generalize w3.heap.size = O at *
  refine (f45 k s r ks vs a b c d key _ (SlV.I (HI.out.below HZ.out)) hkm).mono ?_
  rw [HAT.out]
  rintro e w5 ⟨rfl, hb5⟩
  replace HT := hid (HT.out.bel hb5)
  replace HQ := hid (HQ.out.bel hb5)
  replace HO := hid (HO.out.bel hb5)
  replace RI := hid (own_below RI.out hb5)
  replace RS := hid (own_below RS.out hb5)
  replace HZ := hid (HZ.out.to hb5)
  clear hb5
  have R5 := hid (row_st5 HQ.out (by decide) RI.out (k' := k) (s' := s) (r' := r) (v' := .slice a3 ks.length c3) (u' := .slice b3 vs.length d3))
  have S5 := hid (row_st5 HQ.out (by decide) RS.out (k' := k) (s' := s) (r' := r) (v' := .slice a3 ks.length c3) (u' := .slice b3 vs.length d3))
  have B5' := hid (st5_below (w.heap.size + 1) k s r (.slice a3 ks.length c3) (.slice b3 vs.length d3) HZ.out (by omega))
  have P5 := hid (Box5.cells (Box5.st5 HQ.out (k' := k) (s' := s) (r' := r) (v' := .slice a3 ks.length c3) (u' := .slice b3 vs.length d3)))
  obtain ⟨x0, x1, x2, x3, x4⟩ := Box5.cells HO.out
  have xl := Box5.lt HO.out
  have xf := Box5.frozen HO.out
  obtain ⟨y0, y1, y2, y3, y4⟩ := Box5.cells HQ.out
  have yl := Box5.lt HQ.out
  have yf := Box5.frozen HQ.out
  go_wp2_with fail
  obtain ⟨p0, p1, p2, p3, p4⟩ := P5.out
  unfold st5 at p0 p1 p2 p3 p4
  refine bodyPost_ret (v := .tuple #[.agg #[.int .i64 k, .int .i64 s, .int .i64 r, .slice a3 ks.length c3, .slice b3 vs.length d3], .bool false]) (by simp [results, Try.results22, go_sem, p0, p1, p2, p3, p4]) rfl ?_
  rw [HD.out]
  exact ⟨_, rfl, ⟨_, _, rfl, R5.out, S5.out⟩, B5'.out⟩

set_option maxRecDepth 100000 in
set_option maxHeartbeats 4000000 in
theorem drop_in_row (k s r : Int) (ks : List Int) (vs : List ByteArray) (a b : Option Addr) (c d : Nat) (key : Int) (w : World) (hI : SlV w (.slice a ks.length c) ks.length (ks.map (.int .i64))) (hS : SlV w (.slice b vs.length d) vs.length (vs.map .string)) (hc : ks.length ≤ c) (hd : vs.length ≤ d) (hcm : c ≤ maxLen) (hdm : d ≤ maxLen) (hkm : ks.length ≤ 1048576) (hvm : vs.length ≤ 1048576) (sn : Nat) (hsn : s = sn) (hs8 : sn ≤ 8) (i : Nat) (hi : i < ks.length) (hln : ks.length = vs.length) (hk1 : k = 1) (HOK : Hid (okB k s r ks vs = true)) (HAT : Hid (atI ks key = i)) (HD : Hid (dropT k s r ks vs key = (⟨k, s, r, ks, vs.set i (zerosB sn), 0⟩, true))) :
    Calls Try.prog 22 #[.agg #[.int .i64 k, .int .i64 s, .int .i64 r, .slice a ks.length c, .slice b vs.length d], .int .i64 key] w fun e w' => ∃ V, e = .returned (.tuple #[V, .bool (dropT k s r ks vs key).2]) ∧ Tab w.heap.size w' (dropT k s r ks vs key).1.k (dropT k s r ks vs key).1.s (dropT k s r ks vs key).1.r (dropT k s r ks vs key).1.ks (dropT k s r ks vs key).1.vs V ∧ Below w.heap.size w w' := by
  have HI := hid hI
  have HS := hid hS
  clear hI hS
  subst hsn
  have hiv : i < vs.length := by omega
  have hi' : (i : Int) < (vs.length : Int) := by omega
  have hi0 : (0 : Int) ≤ (i : Int) := by omega
  have hi2 : ¬ ((i : Int) < 0) := by omega
  have hk1b : (k == 1) = true := by simp [hk1]
  have HLN := hid hln
  clear hln hk1
  go_enter Try.func22, Try.ntmps22
  go_wp2_with fail
  have h1 : Box5 (w.alloc (.cells #[.int .i64 k, .int .i64 sn, .int .i64 r, .slice a ks.length c, .slice b vs.length d] 28)) w.heap.size k sn r (.slice a ks.length c) (.slice b vs.length d) := World.alloc_heap_new w _
  have HT := hid (Box5.kept h1 (World.grownBy_alloc _ (.cells #[.int .i64 0, .int .i64 0, .int .i64 0, .slice none 0 0, .slice none 0 0] 28) none) (by simp))
  have h2 : Box5 ((w.alloc (.cells #[.int .i64 k, .int .i64 sn, .int .i64 r, .slice a ks.length c, .slice b vs.length d] 28)).alloc (.cells #[.int .i64 0, .int .i64 0, .int .i64 0, .slice none 0 0, .slice none 0 0] 28)) (w.alloc (.cells #[.int .i64 k, .int .i64 sn, .int .i64 r, .slice a ks.length c, .slice b vs.length d] 28)).heap.size 0 0 0 (.slice none 0 0) (.slice none 0 0) := World.alloc_heap_new _ _
  simp only [World.size_alloc] at h2
  have HQ := hid h2
  clear h1 h2
  have HZ : Hid (Below w.heap.size w ((w.alloc (.cells #[.int .i64 k, .int .i64 sn, .int .i64 r, .slice a ks.length c, .slice b vs.length d] 28)).alloc (.cells #[.int .i64 0, .int .i64 0, .int .i64 0, .slice none 0 0, .slice none 0 0] 28))) := ((Below.refl _ w).alloc (Nat.le_refl _) _).alloc (by simp) _
  generalize (w.alloc (.cells #[.int .i64 k, .int .i64 sn, .int .i64 r, .slice a ks.length c, .slice b vs.length d] 28)).alloc (.cells #[.int .i64 0, .int .i64 0, .int .i64 0, .slice none 0 0, .slice none 0 0] 28) = w1 at *
  refine (f28b k sn r ks vs a b c d _ (SlV.I (HI.out.below HZ.out)) (SlV.S (HS.out.below HZ.out))).mono ?_
  rw [HOK.out]
  rintro e w2 ⟨rfl, hb2⟩
  replace HT := hid (HT.out.bel hb2)
  replace HQ := hid (HQ.out.bel hb2)
  replace HZ := hid (HZ.out.to hb2)
  clear hb2
  obtain ⟨x0, x1, x2, x3, x4⟩ := Box5.cells HT.out
  have xl := Box5.lt HT.out
  have xf := Box5.frozen HT.out
  go_wp2_with fail
  clear x0 x1 x2 x3 x4 xl xf
  refine (f49s k sn r ks vs a b c d _ (HI.out.below HZ.out) (HS.out.below HZ.out) hkm hvm).mono ?_
  rintro e w3 ⟨V, rfl, ht, hb3⟩
  obtain ⟨v, u, rfl, r1, r2⟩ := ht
  obtain ⟨a3, c3, rfl⟩ := own_slice r1
  obtain ⟨b3, d3, rfl⟩ := own_slice r2
  have RI := hid (own_mono r1 HZ.out.size)
  have RS := hid (own_mono r2 HZ.out.size)
  clear r1 r2
  replace HT := hid (HT.out.bel hb3)
  replace HQ := hid (HQ.out.bel hb3)
  replace HZ := hid (HZ.out.to hb3)
  clear hb3
  obtain ⟨x0, x1, x2, x3, x4⟩ := Box5.cells HT.out
  have xl := Box5.lt HT.out
  have xf := Box5.frozen HT.out
  go_wp2_with fail
  clear x0 x1 x2 x3 x4 xl xf
  have ho : Box5 (w3.alloc (.cells #[.int .i64 k, .int .i64 sn, .int .i64 r, .slice a3 ks.length c3, .slice b3 vs.length d3] 28)) w3.heap.size k sn r (.slice a3 ks.length c3) (.slice b3 vs.length d3) := World.alloc_heap_new w3 _
  have HO := hid ho
  clear ho
  have lOT := Box5.lt HT.out
  have lOQ := Box5.lt HQ.out
  replace HT := hid (HT.out.alloc (.cells #[.int .i64 k, .int .i64 sn, .int .i64 r, .slice a3 ks.length c3, .slice b3 vs.length d3] 28))
  replace HQ := hid (HQ.out.alloc (.cells #[.int .i64 k, .int .i64 sn, .int .i64 r, .slice a3 ks.length c3, .slice b3 vs.length d3] 28))
  replace RI := hid (own_below RI.out ((Below.refl _ _).alloc (Nat.le_refl _) (.cells #[.int .i64 k, .int .i64 sn, .int .i64 r, .slice a3 ks.length c3, .slice b3 vs.length d3] 28)))
  replace RS := hid (own_below RS.out ((Below.refl _ _).alloc (Nat.le_refl _) (.cells #[.int .i64 k, .int .i64 sn, .int .i64 r, .slice a3 ks.length c3, .slice b3 vs.length d3] 28)))
  replace HZ := hid (HZ.out.alloc HZ.out.size (.cells #[.int .i64 k, .int .i64 sn, .int .i64 r, .slice a3 ks.length c3, .slice b3 vs.length d3] 28))
  generalize w3.alloc (.cells #[.int .i64 k, .int .i64 sn, .int .i64 r, .slice a3 ks.length c3, .slice b3 vs.length d3] 28) = w4 at *
  generalize w3.heap.size = O at *
  refine (f45 k sn r ks vs a b c d key _ (SlV.I (HI.out.below HZ.out)) hkm).mono ?_
  rw [HAT.out]
  rintro e w5 ⟨rfl, hb5⟩
  replace HT := hid (HT.out.bel hb5)
  replace HQ := hid (HQ.out.bel hb5)
  replace HO := hid (HO.out.bel hb5)
  replace RI := hid (own_below RI.out hb5)
  replace RS := hid (own_below RS.out hb5)
  replace HZ := hid (HZ.out.to hb5)
  clear hb5
  obtain ⟨g3, rfl⟩ := own_pos RS.out (by omega)
  obtain ⟨x0, x1, x2, x3, x4⟩ := Box5.cells HT.out
  have xl := Box5.lt HT.out
  have xf := Box5.frozen HT.out
  go_wp2_with fail
  clear x0 x1 x2 x3 x4 xl xf
  refine wp_region_held_drew (S := (fun w' => (w'.cell? ⟨w.heap.size, 0, none⟩ = some (.int .i64 k) ∧ w'.cell? ⟨w.heap.size, 1, none⟩ = some (.int .i64 sn) ∧ w'.cell? ⟨w.heap.size, 2, none⟩ = some (.int .i64 r) ∧ w'.cell? ⟨w.heap.size, 3, none⟩ = some (.slice a ks.length c) ∧ w'.cell? ⟨w.heap.size, 4, none⟩ = some (.slice b vs.length d)) ∧ (w'.cell? ⟨O, 0, none⟩ = some (.int .i64 k) ∧ w'.cell? ⟨O, 1, none⟩ = some (.int .i64 sn) ∧ w'.cell? ⟨O, 2, none⟩ = some (.int .i64 r) ∧ w'.cell? ⟨O, 3, none⟩ = some (.slice a3 ks.length c3) ∧ w'.cell? ⟨O, 4, none⟩ = some (.slice (some ⟨g3, 0, none⟩) vs.length d3)))) (by kernel_rfl) (by exact ⟨Box5.cells HT.out, Box5.cells HO.out⟩) (fun hHeld => ?_)
  have hbd : Below w5.heap.size w5 w5.drew := (Below.refl _ _).drew
  replace HT := hid (HT.out.bel hbd)
  replace HQ := hid (HQ.out.bel hbd)
  replace HO := hid (HO.out.bel hbd)
  replace RI := hid (own_below RI.out hbd)
  replace RS := hid (own_below RS.out hbd)
  replace HZ := hid (HZ.out.to hbd)
  clear hbd
  generalize w5.drew = W5 at *
  refine wpAnyH_take (i := 0) (oi := ?oi1) (v := ?v1) (fuel := 7) ?hi1 ?hs1 ?hf1 ?hr1 ?hq1 (Or.inl ⟨?hw1, ?hy1⟩) hHeld ?rest1
  case hi1 => rw [List.getElem?_toArray]; rfl
  case hq1 => exact fun _ _ _ h => h
  case hs1 | hf1 | hr1 => kernel_rfl
  case hw1 => rfl
  case hy1 => (intro w1 hSw; (try dsimp only at hSw); go_simp; try with_reducible rfl)
  (try simp only [Act.put, List.setIfInBounds_toArray, List.set_cons_zero, List.set_cons_succ])
  refine wpAnyH_take (i := 1) (oi := ?oi2) (v := ?v2) (fuel := 6) ?hi2 ?hs2 ?hf2 ?hr2 ?hq2 (Or.inl ⟨?hw2, ?hy2⟩) hHeld ?rest2
  case hi2 => rw [List.getElem?_toArray]; rfl
  case hq2 => exact fun _ _ _ h => h
  case hs2 | hf2 | hr2 => kernel_rfl
  case hw2 => rfl
  case hy2 => (intro w1 hSw; (try dsimp only at hSw); go_simp; try with_reducible rfl)
  (try simp only [Act.put, List.setIfInBounds_toArray, List.set_cons_zero, List.set_cons_succ])
  refine wpAnyH_take (i := 2) (oi := ?oi3) (v := ?v3) (fuel := 5) ?hi3 ?hs3 ?hf3 ?hr3 ?hq3 (Or.inl ⟨?hw3, ?hy3⟩) hHeld ?rest3
  case hi3 => rw [List.getElem?_toArray]; rfl
  case hq3 => exact fun _ _ _ h => h
  case hs3 | hf3 | hr3 => kernel_rfl
  case hw3 => rfl
  case hy3 => (intro w1 hSw; (try dsimp only at hSw); go_simp; try with_reducible rfl)
  (try simp only [Act.put, List.setIfInBounds_toArray, List.set_cons_zero, List.set_cons_succ])
  refine wpAnyH_take (i := 3) (oi := ?oi4) (v := ?v4) (fuel := 4) ?hi4 ?hs4 ?hf4 ?hr4 ?hq4 (Or.inl ⟨?hw4, ?hy4⟩) hHeld ?rest4
  case hi4 => rw [List.getElem?_toArray]; rfl
  case hq4 => exact fun _ _ _ h => h
  case hs4 | hf4 | hr4 => kernel_rfl
  case hw4 => rfl
  case hy4 => (intro w1 hSw; (try dsimp only at hSw); go_simp; try with_reducible rfl)
  (try simp only [Act.put, List.setIfInBounds_toArray, List.set_cons_zero, List.set_cons_succ])
  refine wpAnyH_take (i := 4) (oi := ?oi5) (v := ?v5) (fuel := 3) ?hi5 ?hs5 ?hf5 ?hr5 ?hq5 (Or.inl ⟨?hw5, ?hy5⟩) hHeld ?rest5
  case hi5 => rw [List.getElem?_toArray]; rfl
  case hq5 => exact fun _ _ _ h => h
  case hs5 | hf5 | hr5 => kernel_rfl
  case hw5 => rfl
  case hy5 => (intro w1 hSw; (try dsimp only at hSw); go_simp; try with_reducible rfl)
  (try simp only [Act.put, List.setIfInBounds_toArray, List.set_cons_zero, List.set_cons_succ])
  refine wpAnyH_ready (fuel := 2) (rs := [5]) (by kernel_rfl) (by simp) ?_
  refine AllReadyH.cons (o := ?oi6) ?hi6 (fun K hK => ?st6) AllReadyH.nil
  case hi6 => rw [List.getElem?_toArray]; rfl
  go_simp
  refine (f52 sn _ (by omega)).mono ?_
  rintro ee wr5 ⟨rfl, b9⟩
  replace HT := hid (HT.out.bel b9)
  replace HQ := hid (HQ.out.bel b9)
  replace HO := hid (HO.out.bel b9)
  replace RI := hid (own_below RI.out b9)
  replace RS := hid (own_below RS.out b9)
  replace HZ := hid (HZ.out.to b9)
  clear b9
  go_wp2_with fail
  refine hK.out _ _ ?hS6 (fun hHeld => ?re6)
  case hS6 => exact ⟨Box5.cells HT.out, Box5.cells HO.out⟩
  clear hK K
  (try simp only [Act.put, List.setIfInBounds_toArray, List.set_cons_zero, List.set_cons_succ])
  refine wpAnyH_take (i := 6) (oi := ?oi7) (v := ?v7) (fuel := 1) ?hi7 ?hs7 ?hf7 ?hr7 ?hq7 (Or.inl ⟨?hw7, ?hy7⟩) hHeld ?rest7
  case hi7 => rw [List.getElem?_toArray]; rfl
  case hq7 => exact fun _ _ _ h => h
  case hs7 | hf7 | hr7 => kernel_rfl
  case hw7 => rfl
  case hy7 => (intro w1 hSw; (try dsimp only at hSw); go_simp; try with_reducible rfl)
  (try simp only [Act.put, List.setIfInBounds_toArray, List.set_cons_zero, List.set_cons_succ])
  refine wpAnyH_ready (fuel := 0) (rs := [7]) (by kernel_rfl) (by simp) ?_
  refine AllReadyH.cons (o := ?oi8) ?hi8 (fun K hK => ?st8) AllReadyH.nil
  case hi8 => rw [List.getElem?_toArray]; rfl
  obtain ⟨⟨u0, hu0⟩, hf0⟩ := room_own RS.out i (by omega)
  have lg := own_size RS.out
  go_simp
  clear hu0 hf0 lg
  refine hK.out _ _ ?hS8 (fun hHeld => ?re8)
  case hS8 => exact ⟨Box5.cells (Box5.kept HT.out (grownBy_setCell5 wr5 g3 i (.string (zerosB sn))) (Box5.not_row HT.out (by decide) RS.out)), Box5.cells (Box5.kept HO.out (grownBy_setCell5 wr5 g3 i (.string (zerosB sn))) (Box5.not_row HO.out (by decide) RS.out))⟩
  clear hK K
  (try simp only [Act.put, List.setIfInBounds_toArray, List.set_cons_zero, List.set_cons_succ])
  refine wpAnyH_done (by kernel_rfl) ?_ _
  clear hHeld
  have HO2 := hid (Box5.kept HO.out (grownBy_setCell5 wr5 g3 i (.string (zerosB sn))) (Box5.not_row HO.out (by decide) RS.out))
  have HQ2 := hid (Box5.kept HQ.out (grownBy_setCell5 wr5 g3 i (.string (zerosB sn))) (Box5.not_row HQ.out (by decide) RS.out))
  have RI2 := hid (RI.out.kept (grownBy_setCell5 wr5 g3 i (.string (zerosB sn))) (rows_apart RI.out RS.out (by decide)))
  have RS2 := hid (own_set RS.out (show i < vs.length by omega) (.string (zerosB sn)))
  have HZ2 := hid (HZ.out.setCell (p := ⟨g3, i, none⟩) (own_base RS.out g3 rfl) (.string (zerosB sn)))
  have eVS : (vs.map Value.string).set i (.string (zerosB sn)) = (vs.set i (zerosB sn)).map .string := by rw [List.map_set]
  rw [eVS] at RS2
  clear eVS HT HQ HO RI RS HZ
  generalize wr5.setCell ⟨g3, i, none⟩ (.string (zerosB sn)) = w6 at *
  obtain ⟨x0, x1, x2, x3, x4⟩ := Box5.cells HO2.out
  have xl := Box5.lt HO2.out
  have xf := Box5.frozen HO2.out
  obtain ⟨y0, y1, y2, y3, y4⟩ := Box5.cells HQ2.out
  have yl := Box5.lt HQ2.out
  have yf := Box5.frozen HQ2.out
  have R5 := hid (row_st5 HQ2.out (by decide) RI2.out (k' := k) (s' := sn) (r' := r) (v' := .slice a3 ks.length c3) (u' := .slice (some ⟨g3, 0, none⟩) vs.length d3))
  have S5 := hid (row_st5 HQ2.out (by decide) RS2.out (k' := k) (s' := sn) (r' := r) (v' := .slice a3 ks.length c3) (u' := .slice (some ⟨g3, 0, none⟩) vs.length d3))
  have B5' := hid (st5_below (w.heap.size + 1) k sn r (.slice a3 ks.length c3) (.slice (some ⟨g3, 0, none⟩) vs.length d3) HZ2.out (by omega))
  have P5 := hid (Box5.cells (Box5.st5 HQ2.out (k' := k) (s' := sn) (r' := r) (v' := .slice a3 ks.length c3) (u' := .slice (some ⟨g3, 0, none⟩) vs.length d3)))
  go_wp2_with fail
  obtain ⟨p0, p1, p2, p3, p4⟩ := P5.out
  unfold st5 at p0 p1 p2 p3 p4
  refine bodyPost_ret (v := .tuple #[.agg #[.int .i64 k, .int .i64 sn, .int .i64 r, .slice a3 ks.length c3, .slice (some ⟨g3, 0, none⟩) vs.length d3], .bool true]) (by simp [results, Try.results22, go_sem, p0, p1, p2, p3, p4]) rfl ?_
  rw [HD.out]
  exact ⟨_, rfl, ⟨_, _, rfl, R5.out, (by rw [List.length_set]; exact S5.out)⟩, B5'.out⟩

set_option maxRecDepth 100000 in
set_option maxHeartbeats 4000000 in
theorem drop_in_hash (k s r : Int) (ks : List Int) (vs : List ByteArray) (a b : Option Addr) (c d : Nat) (key : Int) (w : World) (hI : SlV w (.slice a ks.length c) ks.length (ks.map (.int .i64))) (hS : SlV w (.slice b vs.length d) vs.length (vs.map .string)) (hc : ks.length ≤ c) (hd : vs.length ≤ d) (hcm : c ≤ maxLen) (hdm : d ≤ maxLen) (hkm : ks.length ≤ 1048576) (hvm : vs.length ≤ 1048576) (i : Nat) (hi : i < ks.length) (hln : ks.length = vs.length) (hk1 : k ≠ 1) (KS : List Int) (VS : List ByteArray) (eKS : Hid (KS = ks.take i ++ ks.drop (i + 1))) (eVS : Hid (VS = vs.take i ++ vs.drop (i + 1))) (HOK : Hid (okB k s r ks vs = true)) (HAT : Hid (atI ks key = i)) (HD : Hid (dropT k s r ks vs key = (⟨k, s, r, KS, VS, 0⟩, true))) :
    Calls Try.prog 22 #[.agg #[.int .i64 k, .int .i64 s, .int .i64 r, .slice a ks.length c, .slice b vs.length d], .int .i64 key] w fun e w' => ∃ V, e = .returned (.tuple #[V, .bool (dropT k s r ks vs key).2]) ∧ Tab w.heap.size w' (dropT k s r ks vs key).1.k (dropT k s r ks vs key).1.s (dropT k s r ks vs key).1.r (dropT k s r ks vs key).1.ks (dropT k s r ks vs key).1.vs V ∧ Below w.heap.size w w' := by
  have HI := hid hI
  have HS := hid hS
  clear hI hS
  obtain ⟨ga, rfl⟩ := SlV.pos HI.out (by omega)
  obtain ⟨gb, rfl⟩ := SlV.pos HS.out (by omega)
  obtain ⟨i0, hi_, hz0, hz1, hz2⟩ := info_parts info3
  obtain ⟨j0, hj, hy0, hy1, hy2⟩ := info_parts info9
  obtain ⟨o1, ho1c⟩ : ∃ o1, (c = i + 1 ∧ o1 = 0) ∨ (¬ c = i + 1 ∧ o1 = i + 1) := by
    by_cases h : c = i + 1
    · exact ⟨0, .inl ⟨h, rfl⟩⟩
    · exact ⟨i + 1, .inr ⟨h, rfl⟩⟩
  obtain ⟨o2, ho2c⟩ : ∃ o1, (d = i + 1 ∧ o1 = 0) ∨ (¬ d = i + 1 ∧ o1 = i + 1) := by
    by_cases h : d = i + 1
    · exact ⟨0, .inl ⟨h, rfl⟩⟩
    · exact ⟨i + 1, .inr ⟨h, rfl⟩⟩
  have ho1 : o1 = i + 1 ∨ ks.length = i + 1 := by omega
  have ho2 : o2 = i + 1 ∨ vs.length = i + 1 := by omega
  have hc0 : ¬ c = 0 := by omega
  have hd0 : ¬ d = 0 := by omega
  have hiv : i < vs.length := by omega
  have hic : (i : Int) ≤ (c : Int) := by omega
  have hid' : (i : Int) ≤ (d : Int) := by omega
  have hi1 : (i : Int) + 1 ≤ (ks.length : Int) := by omega
  have hi1v : (i : Int) + 1 ≤ (vs.length : Int) := by omega
  have hi0 : (0 : Int) ≤ (i : Int) := by omega
  have hi2 : ¬ ((i : Int) < 0) := by omega
  have him : (i : Int) ≤ 1048576 := by omega
  have hk1b : (k == 1) = false := by simp [hk1]
  have hwi : IntKind.i64.wrap ((i : Int) + 1) = (i : Int) + 1 := by rw [IntKind.wrap_i64]; omega
  have hi1p : (0 : Int) ≤ (i : Int) + 1 := by omega
  have hi1n : ¬ ((i : Int) + 1 < 0) := by omega
  have hti : ((i : Int) + 1).toNat = i + 1 := by omega
  have HLN := hid hln
  clear hln hk1
  go_enter Try.func22, Try.ntmps22
  go_wp2_with fail
  have h1 : Box5 (w.alloc (.cells #[.int .i64 k, .int .i64 s, .int .i64 r, .slice (some ⟨ga, 0, none⟩) ks.length c, .slice (some ⟨gb, 0, none⟩) vs.length d] 28)) w.heap.size k s r (.slice (some ⟨ga, 0, none⟩) ks.length c) (.slice (some ⟨gb, 0, none⟩) vs.length d) := World.alloc_heap_new w _
  have HT := hid (Box5.kept h1 (World.grownBy_alloc _ (.cells #[.int .i64 0, .int .i64 0, .int .i64 0, .slice none 0 0, .slice none 0 0] 28) none) (by simp))
  have h2 : Box5 ((w.alloc (.cells #[.int .i64 k, .int .i64 s, .int .i64 r, .slice (some ⟨ga, 0, none⟩) ks.length c, .slice (some ⟨gb, 0, none⟩) vs.length d] 28)).alloc (.cells #[.int .i64 0, .int .i64 0, .int .i64 0, .slice none 0 0, .slice none 0 0] 28)) (w.alloc (.cells #[.int .i64 k, .int .i64 s, .int .i64 r, .slice (some ⟨ga, 0, none⟩) ks.length c, .slice (some ⟨gb, 0, none⟩) vs.length d] 28)).heap.size 0 0 0 (.slice none 0 0) (.slice none 0 0) := World.alloc_heap_new _ _
  simp only [World.size_alloc] at h2
  have HQ := hid h2
  clear h1 h2
  have HZ : Hid (Below w.heap.size w ((w.alloc (.cells #[.int .i64 k, .int .i64 s, .int .i64 r, .slice (some ⟨ga, 0, none⟩) ks.length c, .slice (some ⟨gb, 0, none⟩) vs.length d] 28)).alloc (.cells #[.int .i64 0, .int .i64 0, .int .i64 0, .slice none 0 0, .slice none 0 0] 28))) := ((Below.refl _ w).alloc (Nat.le_refl _) _).alloc (by simp) _
  generalize (w.alloc (.cells #[.int .i64 k, .int .i64 s, .int .i64 r, .slice (some ⟨ga, 0, none⟩) ks.length c, .slice (some ⟨gb, 0, none⟩) vs.length d] 28)).alloc (.cells #[.int .i64 0, .int .i64 0, .int .i64 0, .slice none 0 0, .slice none 0 0] 28) = w1 at *
  refine (f28b k s r ks vs (some ⟨ga, 0, none⟩) (some ⟨gb, 0, none⟩) c d _ (SlV.I (HI.out.below HZ.out)) (SlV.S (HS.out.below HZ.out))).mono ?_
  rw [HOK.out]
  rintro e w2 ⟨rfl, hb2⟩
  replace HT := hid (HT.out.bel hb2)
  replace HQ := hid (HQ.out.bel hb2)
  replace HZ := hid (HZ.out.to hb2)
  clear hb2
  obtain ⟨x0, x1, x2, x3, x4⟩ := Box5.cells HT.out
  have xl := Box5.lt HT.out
  have xf := Box5.frozen HT.out
  go_wp2_with fail
  clear x0 x1 x2 x3 x4 xl xf
  refine (f49s k s r ks vs (some ⟨ga, 0, none⟩) (some ⟨gb, 0, none⟩) c d _ (HI.out.below HZ.out) (HS.out.below HZ.out) hkm hvm).mono ?_
  rintro e w3 ⟨V, rfl, ht, hb3⟩
  obtain ⟨v, u, rfl, r1, r2⟩ := ht
  obtain ⟨a3, c3, rfl⟩ := own_slice r1
  obtain ⟨b3, d3, rfl⟩ := own_slice r2
  have RI := hid (own_mono r1 HZ.out.size)
  have RS := hid (own_mono r2 HZ.out.size)
  clear r1 r2
  replace HT := hid (HT.out.bel hb3)
  replace HQ := hid (HQ.out.bel hb3)
  replace HZ := hid (HZ.out.to hb3)
  clear hb3
  obtain ⟨x0, x1, x2, x3, x4⟩ := Box5.cells HT.out
  have xl := Box5.lt HT.out
  have xf := Box5.frozen HT.out
  go_wp2_with fail
  clear x0 x1 x2 x3 x4 xl xf
  have ho : Box5 (w3.alloc (.cells #[.int .i64 k, .int .i64 s, .int .i64 r, .slice a3 ks.length c3, .slice b3 vs.length d3] 28)) w3.heap.size k s r (.slice a3 ks.length c3) (.slice b3 vs.length d3) := World.alloc_heap_new w3 _
  have HO := hid ho
  clear ho
  have lOT := Box5.lt HT.out
  have lOQ := Box5.lt HQ.out
  replace HT := hid (HT.out.alloc (.cells #[.int .i64 k, .int .i64 s, .int .i64 r, .slice a3 ks.length c3, .slice b3 vs.length d3] 28))
  replace HQ := hid (HQ.out.alloc (.cells #[.int .i64 k, .int .i64 s, .int .i64 r, .slice a3 ks.length c3, .slice b3 vs.length d3] 28))
  replace RI := hid (own_below RI.out ((Below.refl _ _).alloc (Nat.le_refl _) (.cells #[.int .i64 k, .int .i64 s, .int .i64 r, .slice a3 ks.length c3, .slice b3 vs.length d3] 28)))
  replace RS := hid (own_below RS.out ((Below.refl _ _).alloc (Nat.le_refl _) (.cells #[.int .i64 k, .int .i64 s, .int .i64 r, .slice a3 ks.length c3, .slice b3 vs.length d3] 28)))
  replace HZ := hid (HZ.out.alloc HZ.out.size (.cells #[.int .i64 k, .int .i64 s, .int .i64 r, .slice a3 ks.length c3, .slice b3 vs.length d3] 28))
  generalize w3.alloc (.cells #[.int .i64 k, .int .i64 s, .int .i64 r, .slice a3 ks.length c3, .slice b3 vs.length d3] 28) = w4 at *
  generalize w3.heap.size = O at *
  refine (f45 k s r ks vs (some ⟨ga, 0, none⟩) (some ⟨gb, 0, none⟩) c d key _ (SlV.I (HI.out.below HZ.out)) hkm).mono ?_
  rw [HAT.out]
  rintro e w5 ⟨rfl, hb5⟩
  replace HT := hid (HT.out.bel hb5)
  replace HQ := hid (HQ.out.bel hb5)
  replace HO := hid (HO.out.bel hb5)
  replace RI := hid (own_below RI.out hb5)
  replace RS := hid (own_below RS.out hb5)
  replace HZ := hid (HZ.out.to hb5)
  clear hb5
  obtain ⟨x0, x1, x2, x3, x4⟩ := Box5.cells HT.out
  have xl := Box5.lt HT.out
  have xf := Box5.frozen HT.out
  go_wp2_with fail
  clear x0 x1 x2 x3 x4 xl xf
  clear RI
  refine wp_region_held_drew (S := (fun w' => (w'.cell? ⟨w.heap.size, 0, none⟩ = some (.int .i64 k) ∧ w'.cell? ⟨w.heap.size, 1, none⟩ = some (.int .i64 s) ∧ w'.cell? ⟨w.heap.size, 2, none⟩ = some (.int .i64 r) ∧ w'.cell? ⟨w.heap.size, 3, none⟩ = some (.slice (some ⟨ga, 0, none⟩) ks.length c) ∧ w'.cell? ⟨w.heap.size, 4, none⟩ = some (.slice (some ⟨gb, 0, none⟩) vs.length d)))) (by kernel_rfl) (by exact Box5.cells HT.out) (fun hHeld => ?_)
  have hbd : Below w5.heap.size w5 w5.drew := (Below.refl _ _).drew
  replace HT := hid (HT.out.bel hbd)
  replace HQ := hid (HQ.out.bel hbd)
  replace HO := hid (HO.out.bel hbd)
  replace RS := hid (own_below RS.out hbd)
  replace HZ := hid (HZ.out.to hbd)
  clear hbd
  generalize w5.drew = W1 at *
  refine wpAnyH_take (i := 1) (oi := ?oi9) (v := ?v9) (fuel := 13) ?hi9 ?hs9 ?hf9 ?hr9 ?hq9 (Or.inl ⟨?hw9, ?hy9⟩) hHeld ?rest9
  case hi9 => rw [List.getElem?_toArray]; rfl
  case hq9 => exact fun _ _ _ h => h
  case hs9 | hf9 | hr9 => kernel_rfl
  case hw9 => rfl
  case hy9 => (intro w1 hSw; (try dsimp only at hSw); go_simp; try with_reducible rfl)
  (try simp only [Act.put, List.setIfInBounds_toArray, List.set_cons_zero, List.set_cons_succ])
  refine wpAnyH_take (i := 2) (oi := ?oi10) (v := ?v10) (fuel := 12) ?hi10 ?hs10 ?hf10 ?hr10 ?hq10 (Or.inl ⟨?hw10, ?hy10⟩) hHeld ?rest10
  case hi10 => rw [List.getElem?_toArray]; rfl
  case hq10 => exact fun _ _ _ h => h
  case hs10 | hf10 | hr10 => kernel_rfl
  case hw10 => rfl
  case hy10 => (intro w1 hSw; (try dsimp only at hSw); go_simp; try with_reducible rfl)
  (try simp only [Act.put, List.setIfInBounds_toArray, List.set_cons_zero, List.set_cons_succ])
  refine wpAnyH_take (i := 3) (oi := ?oi11) (v := ?v11) (fuel := 11) ?hi11 ?hs11 ?hf11 ?hr11 ?hq11 (Or.inl ⟨?hw11, ?hy11⟩) hHeld ?rest11
  case hi11 => rw [List.getElem?_toArray]; rfl
  case hq11 => exact fun _ _ _ h => h
  case hs11 | hf11 | hr11 => kernel_rfl
  case hw11 => rfl
  case hy11 => (intro w1 hSw; (try dsimp only at hSw); go_simp; try with_reducible rfl)
  (try simp only [Act.put, List.setIfInBounds_toArray, List.set_cons_zero, List.set_cons_succ])
  refine wpAnyH_take (i := 4) (oi := ?oi12) (v := .slice (some ⟨ga, 0, none⟩) i c) (fuel := 10) ?hi12 ?hs12 ?hf12 ?hr12 ?hq12 (Or.inl ⟨?hw12, ?hy12⟩) hHeld ?rest12
  case hi12 => rw [List.getElem?_toArray]; rfl
  case hq12 => exact fun _ _ _ h => h
  case hs12 | hf12 | hr12 => kernel_rfl
  case hw12 => rfl
  case hy12 => (intro w1 hSw; (try dsimp only at hSw); go_simp; try simp [Addr.add, hc0])
  (try simp only [Act.put, List.setIfInBounds_toArray, List.set_cons_zero, List.set_cons_succ])
  refine wpAnyH_take (i := 6) (oi := ?oi13) (v := ?v13) (fuel := 9) ?hi13 ?hs13 ?hf13 ?hr13 ?hq13 (Or.inl ⟨?hw13, ?hy13⟩) hHeld ?rest13
  case hi13 => rw [List.getElem?_toArray]; rfl
  case hq13 => exact fun _ _ _ h => h
  case hs13 | hf13 | hr13 => kernel_rfl
  case hw13 => rfl
  case hy13 => (intro w1 hSw; (try dsimp only at hSw); go_simp; try with_reducible rfl)
  (try simp only [Act.put, List.setIfInBounds_toArray, List.set_cons_zero, List.set_cons_succ])
  refine wpAnyH_take (i := 7) (oi := ?oi14) (v := ?v14) (fuel := 8) ?hi14 ?hs14 ?hf14 ?hr14 ?hq14 (Or.inl ⟨?hw14, ?hy14⟩) hHeld ?rest14
  case hi14 => rw [List.getElem?_toArray]; rfl
  case hq14 => exact fun _ _ _ h => h
  case hs14 | hf14 | hr14 => kernel_rfl
  case hw14 => rfl
  case hy14 => (intro w1 hSw; (try dsimp only at hSw); go_simp; try with_reducible rfl)
  (try simp only [Act.put, List.setIfInBounds_toArray, List.set_cons_zero, List.set_cons_succ])
  refine wpAnyH_take (i := 8) (oi := ?oi15) (v := ?v15) (fuel := 7) ?hi15 ?hs15 ?hf15 ?hr15 ?hq15 (Or.inl ⟨?hw15, ?hy15⟩) hHeld ?rest15
  case hi15 => rw [List.getElem?_toArray]; rfl
  case hq15 => exact fun _ _ _ h => h
  case hs15 | hf15 | hr15 => kernel_rfl
  case hw15 => rfl
  case hy15 => (intro w1 hSw; (try dsimp only at hSw); go_simp; try with_reducible rfl)
  (try simp only [Act.put, List.setIfInBounds_toArray, List.set_cons_zero, List.set_cons_succ])
  refine wpAnyH_take (i := 9) (oi := ?oi16) (v := .int .i64 ((i : Int) + 1)) (fuel := 6) ?hi16 ?hs16 ?hf16 ?hr16 ?hq16 (Or.inl ⟨?hw16, ?hy16⟩) hHeld ?rest16
  case hi16 => rw [List.getElem?_toArray]; rfl
  case hq16 => exact fun _ _ _ h => h
  case hs16 | hf16 | hr16 => kernel_rfl
  case hw16 => rfl
  case hy16 => (intro w1 hSw; (try dsimp only at hSw); go_simp; try simp [hwi])
  (try simp only [Act.put, List.setIfInBounds_toArray, List.set_cons_zero, List.set_cons_succ])
  refine wpAnyH_take (i := 10) (oi := ?oi17) (v := .slice (some ⟨ga, o1, none⟩) (ks.length - (i + 1)) (c - (i + 1))) (fuel := 5) ?hi17 ?hs17 ?hf17 ?hr17 ?hq17 (Or.inl ⟨?hw17, ?hy17⟩) hHeld ?rest17
  case hi17 => rw [List.getElem?_toArray]; rfl
  case hq17 => exact fun _ _ _ h => h
  case hs17 | hf17 | hr17 => kernel_rfl
  case hw17 => rfl
  case hy17 => (intro w1 hSw; (try dsimp only at hSw); go_simp; rcases ho1c with ⟨e1, e2⟩ | ⟨e1, e2⟩ <;> simp [Addr.add, e1, e2, hti, hi0, hi1, hi1v, hi1p, hi1n])
  (try simp only [Act.put, List.setIfInBounds_toArray, List.set_cons_zero, List.set_cons_succ])
  refine wpAnyH_ready (fuel := 4) (rs := [0]) (by kernel_rfl) (by simp) ?_
  refine AllReadyH.cons (o := ?oi18) ?hi18 (fun K hK => ?st18) AllReadyH.nil
  case hi18 => rw [List.getElem?_toArray]; rfl
  go_simp
  have L0 := hid (made0 W1 w.heap.size W1.heap.size 3 rfl HZ.out.size)
  have ba : Below W1.heap.size W1 (W1.alloc (.cells #[] 3)) := (Below.refl _ _).alloc (Nat.le_refl _) _
  replace HT := hid (HT.out.bel ba)
  replace HQ := hid (HQ.out.bel ba)
  replace HO := hid (HO.out.bel ba)
  replace RS := hid (own_below RS.out ba)
  replace HZ := hid (HZ.out.to ba)
  clear ba
  generalize W1.alloc (.cells #[] 3) = wr0 at *
  generalize W1.heap.size = G0 at *
  refine hK.out _ _ ?hS18 (fun hHeld => ?re18)
  case hS18 => exact Box5.cells HT.out
  clear hK K
  (try simp only [Act.put, List.setIfInBounds_toArray, List.set_cons_zero, List.set_cons_succ])
  refine wpAnyH_ready (fuel := 3) (rs := [5]) (by kernel_rfl) (by simp) ?_
  refine AllReadyH.cons (o := ?oi19) ?hi19 (fun K hK => ?st19) AllReadyH.nil
  case hi19 => rw [List.getElem?_toArray]; rfl
  rw [if_pos (by first | rfl | kernel_rfl)]
  refine wp_append_own _ _ _ 25 rfl w.heap.size 3 i0 (.int .i64 0) 1 8 Try.underlying25 hi_ hz0 hz1 hz2 rfl (by decide) _ _ _ rfl L0.out ⟨ga, 0, none⟩ i c ((ks.map (Value.int .i64)).take i) rfl (by simp; omega) (SlV.front (HI.out.below HZ.out) (by omega)) (fun u hu => int_one ks u (List.mem_of_mem_take hu)) (by unfold maxLen; omega) (by omega) HZ.out.size ?_
  intro v1 wr5 hown1 hgrow1 _
  replace HT := hid (Box5.kept HT.out hgrow1 (Box5.not_row HT.out (by decide) L0.out))
  replace HQ := hid (Box5.kept HQ.out hgrow1 (Box5.not_row HQ.out (by decide) L0.out))
  replace HO := hid (Box5.kept HO.out hgrow1 (Box5.not_row HO.out (by decide) L0.out))
  replace RS := hid (RS.out.kept hgrow1 (rows_apart RS.out L0.out (by decide)))
  replace HZ := hid (HZ.out.grown hgrow1 HZ.out.size (own_base L0.out))
  have L1 := hid hown1
  clear hown1 hgrow1 L0
  refine hK.out _ _ ?hS19 (fun hHeld => ?re19)
  case hS19 => exact Box5.cells HT.out
  clear hK K
  (try simp only [Act.put, List.setIfInBounds_toArray, List.set_cons_zero, List.set_cons_succ])
  refine wpAnyH_ready (fuel := 2) (rs := [11]) (by kernel_rfl) (by simp) ?_
  refine AllReadyH.cons (o := ?oi20) ?hi20 (fun K hK => ?st20) AllReadyH.nil
  case hi20 => rw [List.getElem?_toArray]; rfl
  rw [if_pos (by first | rfl | kernel_rfl)]
  refine wp_append_own _ _ _ 25 rfl w.heap.size 3 i0 (.int .i64 0) 1 8 Try.underlying25 hi_ hz0 hz1 hz2 rfl (by decide) _ _ _ rfl L1.out ⟨ga, o1, none⟩ (ks.length - (i + 1)) (c - (i + 1)) ((ks.map (Value.int .i64)).drop (i + 1)) rfl (by simp) (SlV.back (HI.out.below HZ.out) ho1) (fun u hu => int_one ks u (List.mem_of_mem_drop hu)) (by unfold maxLen; omega) (by omega) HZ.out.size ?_
  intro v2 wr11 hown2 hgrow2 _
  replace HT := hid (Box5.kept HT.out hgrow2 (Box5.not_row HT.out (by decide) L1.out))
  replace HQ := hid (Box5.kept HQ.out hgrow2 (Box5.not_row HQ.out (by decide) L1.out))
  replace HO := hid (Box5.kept HO.out hgrow2 (Box5.not_row HO.out (by decide) L1.out))
  replace RS := hid (RS.out.kept hgrow2 (rows_apart RS.out L1.out (by decide)))
  replace HZ := hid (HZ.out.grown hgrow2 HZ.out.size (own_base L1.out))
  have L2 := hid hown2
  clear hown2 hgrow2 L1
  have L3 : Hid (wr11.ownsRow w.heap.size 3 1 v2 KS.length (KS.map (.int .i64))) := by
    have e1 : KS.length = 0 + i + (ks.length - (i + 1)) := by rw [eKS.out]; simp; omega
    have e2 : KS.map (.int .i64) = [] ++ (ks.map (Value.int .i64)).take i ++ (ks.map (Value.int .i64)).drop (i + 1) := by rw [eKS.out]; simp
    show wr11.ownsRow w.heap.size 3 1 v2 KS.length (KS.map (.int .i64))
    rw [e1, e2]
    exact L2.out
  obtain ⟨ak, ck, rfl⟩ := own_slice L3.out
  clear L2
  refine hK.out _ _ ?hS20 (fun hHeld => ?re20)
  case hS20 => exact Box5.cells HT.out
  clear hK K
  (try simp only [Act.put, List.setIfInBounds_toArray, List.set_cons_zero, List.set_cons_succ])
  refine wpAnyH_take (i := 12) (oi := ?oi21) (v := ?v21) (fuel := 1) ?hi21 ?hs21 ?hf21 ?hr21 ?hq21 (Or.inl ⟨?hw21, ?hy21⟩) hHeld ?rest21
  case hi21 => rw [List.getElem?_toArray]; rfl
  case hq21 => exact fun _ _ _ h => h
  case hs21 | hf21 | hr21 => kernel_rfl
  case hw21 => rfl
  case hy21 => (intro w1 hSw; (try dsimp only at hSw); go_simp; try with_reducible rfl)
  (try simp only [Act.put, List.setIfInBounds_toArray, List.set_cons_zero, List.set_cons_succ])
  refine wpAnyH_ready (fuel := 0) (rs := [13]) (by kernel_rfl) (by simp) ?_
  refine AllReadyH.cons (o := ?oi22) ?hi22 (fun K hK => ?st22) AllReadyH.nil
  case hi22 => rw [List.getElem?_toArray]; rfl
  obtain ⟨x0, x1, x2, x3, x4⟩ := Box5.cells HO.out
  have xl := Box5.lt HO.out
  have xf := Box5.frozen HO.out
  go_simp
  clear x0 x1 x2 x3 x4 xl xf
  refine hK.out _ _ ?hS22 (fun hHeld => ?re22)
  case hS22 => exact Box5.cells (Box5.kept HT.out (grownBy_setCell5 wr11 O 3 (.slice ak KS.length ck)) (by simp; omega))
  clear hK K
  (try simp only [Act.put, List.setIfInBounds_toArray, List.set_cons_zero, List.set_cons_succ])
  refine wpAnyH_done (by kernel_rfl) ?_ _
  clear hHeld
  have HO2 := hid (Box5.set3 (.slice ak KS.length ck) HO.out)
  have HT2 := hid (Box5.kept HT.out (grownBy_setCell5 wr11 O 3 (.slice ak KS.length ck)) (by simp; omega))
  have HQ2 := hid (Box5.kept HQ.out (grownBy_setCell5 wr11 O 3 (.slice ak KS.length ck)) (by simp; omega))
  have L4 := hid (L3.out.kept (grownBy_setCell5 wr11 O 3 (.slice ak KS.length ck)) (.inr (Box5.not_row HO.out (by decide) L3.out).symm))
  have RS2 := hid (RS.out.kept (grownBy_setCell5 wr11 O 3 (.slice ak KS.length ck)) (.inr (Box5.not_row HO.out (by decide) RS.out).symm))
  have HZ2 := hid (HZ.out.setCell (p := ⟨O, 3, none⟩) (by show w.heap.size ≤ O; omega) (.slice ak KS.length ck))
  clear HO HT HQ RS HZ L3
  generalize wr11.setCell ⟨O, 3, none⟩ (.slice ak KS.length ck) = w6 at *
  have HO := HO2
  have HT := HT2
  have HQ := HQ2
  have RS := RS2
  have HZ := HZ2
  have L := L4
  clear HO2 HT2 HQ2 RS2 HZ2 L4
  have RI := L
  clear L RS
  obtain ⟨x0, x1, x2, x3, x4⟩ := Box5.cells HT.out
  have xl := Box5.lt HT.out
  have xf := Box5.frozen HT.out
  go_wp2_with fail
  clear x0 x1 x2 x3 x4 xl xf
  refine wp_region_held_drew (S := (fun w' => (w'.cell? ⟨w.heap.size, 0, none⟩ = some (.int .i64 k) ∧ w'.cell? ⟨w.heap.size, 1, none⟩ = some (.int .i64 s) ∧ w'.cell? ⟨w.heap.size, 2, none⟩ = some (.int .i64 r) ∧ w'.cell? ⟨w.heap.size, 3, none⟩ = some (.slice (some ⟨ga, 0, none⟩) ks.length c) ∧ w'.cell? ⟨w.heap.size, 4, none⟩ = some (.slice (some ⟨gb, 0, none⟩) vs.length d)))) (by kernel_rfl) (by exact Box5.cells HT.out) (fun hHeld => ?_)
  have hbd : Below w6.heap.size w6 w6.drew := (Below.refl _ _).drew
  replace HT := hid (HT.out.bel hbd)
  replace HQ := hid (HQ.out.bel hbd)
  replace HO := hid (HO.out.bel hbd)
  replace RI := hid (own_below RI.out hbd)
  replace HZ := hid (HZ.out.to hbd)
  clear hbd
  generalize w6.drew = W1 at *
  refine wpAnyH_take (i := 1) (oi := ?oi23) (v := ?v23) (fuel := 13) ?hi23 ?hs23 ?hf23 ?hr23 ?hq23 (Or.inl ⟨?hw23, ?hy23⟩) hHeld ?rest23
  case hi23 => rw [List.getElem?_toArray]; rfl
  case hq23 => exact fun _ _ _ h => h
  case hs23 | hf23 | hr23 => kernel_rfl
  case hw23 => rfl
  case hy23 => (intro w1 hSw; (try dsimp only at hSw); go_simp; try with_reducible rfl)
  (try simp only [Act.put, List.setIfInBounds_toArray, List.set_cons_zero, List.set_cons_succ])
  refine wpAnyH_take (i := 2) (oi := ?oi24) (v := ?v24) (fuel := 12) ?hi24 ?hs24 ?hf24 ?hr24 ?hq24 (Or.inl ⟨?hw24, ?hy24⟩) hHeld ?rest24
  case hi24 => rw [List.getElem?_toArray]; rfl
  case hq24 => exact fun _ _ _ h => h
  case hs24 | hf24 | hr24 => kernel_rfl
  case hw24 => rfl
  case hy24 => (intro w1 hSw; (try dsimp only at hSw); go_simp; try with_reducible rfl)
  (try simp only [Act.put, List.setIfInBounds_toArray, List.set_cons_zero, List.set_cons_succ])
  refine wpAnyH_take (i := 3) (oi := ?oi25) (v := ?v25) (fuel := 11) ?hi25 ?hs25 ?hf25 ?hr25 ?hq25 (Or.inl ⟨?hw25, ?hy25⟩) hHeld ?rest25
  case hi25 => rw [List.getElem?_toArray]; rfl
  case hq25 => exact fun _ _ _ h => h
  case hs25 | hf25 | hr25 => kernel_rfl
  case hw25 => rfl
  case hy25 => (intro w1 hSw; (try dsimp only at hSw); go_simp; try with_reducible rfl)
  (try simp only [Act.put, List.setIfInBounds_toArray, List.set_cons_zero, List.set_cons_succ])
  refine wpAnyH_take (i := 4) (oi := ?oi26) (v := .slice (some ⟨gb, 0, none⟩) i d) (fuel := 10) ?hi26 ?hs26 ?hf26 ?hr26 ?hq26 (Or.inl ⟨?hw26, ?hy26⟩) hHeld ?rest26
  case hi26 => rw [List.getElem?_toArray]; rfl
  case hq26 => exact fun _ _ _ h => h
  case hs26 | hf26 | hr26 => kernel_rfl
  case hw26 => rfl
  case hy26 => (intro w1 hSw; (try dsimp only at hSw); go_simp; try simp [Addr.add, hd0])
  (try simp only [Act.put, List.setIfInBounds_toArray, List.set_cons_zero, List.set_cons_succ])
  refine wpAnyH_take (i := 6) (oi := ?oi27) (v := ?v27) (fuel := 9) ?hi27 ?hs27 ?hf27 ?hr27 ?hq27 (Or.inl ⟨?hw27, ?hy27⟩) hHeld ?rest27
  case hi27 => rw [List.getElem?_toArray]; rfl
  case hq27 => exact fun _ _ _ h => h
  case hs27 | hf27 | hr27 => kernel_rfl
  case hw27 => rfl
  case hy27 => (intro w1 hSw; (try dsimp only at hSw); go_simp; try with_reducible rfl)
  (try simp only [Act.put, List.setIfInBounds_toArray, List.set_cons_zero, List.set_cons_succ])
  refine wpAnyH_take (i := 7) (oi := ?oi28) (v := ?v28) (fuel := 8) ?hi28 ?hs28 ?hf28 ?hr28 ?hq28 (Or.inl ⟨?hw28, ?hy28⟩) hHeld ?rest28
  case hi28 => rw [List.getElem?_toArray]; rfl
  case hq28 => exact fun _ _ _ h => h
  case hs28 | hf28 | hr28 => kernel_rfl
  case hw28 => rfl
  case hy28 => (intro w1 hSw; (try dsimp only at hSw); go_simp; try with_reducible rfl)
  (try simp only [Act.put, List.setIfInBounds_toArray, List.set_cons_zero, List.set_cons_succ])
  refine wpAnyH_take (i := 8) (oi := ?oi29) (v := ?v29) (fuel := 7) ?hi29 ?hs29 ?hf29 ?hr29 ?hq29 (Or.inl ⟨?hw29, ?hy29⟩) hHeld ?rest29
  case hi29 => rw [List.getElem?_toArray]; rfl
  case hq29 => exact fun _ _ _ h => h
  case hs29 | hf29 | hr29 => kernel_rfl
  case hw29 => rfl
  case hy29 => (intro w1 hSw; (try dsimp only at hSw); go_simp; try with_reducible rfl)
  (try simp only [Act.put, List.setIfInBounds_toArray, List.set_cons_zero, List.set_cons_succ])
  refine wpAnyH_take (i := 9) (oi := ?oi30) (v := .int .i64 ((i : Int) + 1)) (fuel := 6) ?hi30 ?hs30 ?hf30 ?hr30 ?hq30 (Or.inl ⟨?hw30, ?hy30⟩) hHeld ?rest30
  case hi30 => rw [List.getElem?_toArray]; rfl
  case hq30 => exact fun _ _ _ h => h
  case hs30 | hf30 | hr30 => kernel_rfl
  case hw30 => rfl
  case hy30 => (intro w1 hSw; (try dsimp only at hSw); go_simp; try simp [hwi])
  (try simp only [Act.put, List.setIfInBounds_toArray, List.set_cons_zero, List.set_cons_succ])
  refine wpAnyH_take (i := 10) (oi := ?oi31) (v := .slice (some ⟨gb, o2, none⟩) (vs.length - (i + 1)) (d - (i + 1))) (fuel := 5) ?hi31 ?hs31 ?hf31 ?hr31 ?hq31 (Or.inl ⟨?hw31, ?hy31⟩) hHeld ?rest31
  case hi31 => rw [List.getElem?_toArray]; rfl
  case hq31 => exact fun _ _ _ h => h
  case hs31 | hf31 | hr31 => kernel_rfl
  case hw31 => rfl
  case hy31 => (intro w1 hSw; (try dsimp only at hSw); go_simp; rcases ho2c with ⟨e1, e2⟩ | ⟨e1, e2⟩ <;> simp [Addr.add, e1, e2, hti, hi0, hi1, hi1v, hi1p, hi1n])
  (try simp only [Act.put, List.setIfInBounds_toArray, List.set_cons_zero, List.set_cons_succ])
  refine wpAnyH_ready (fuel := 4) (rs := [0]) (by kernel_rfl) (by simp) ?_
  refine AllReadyH.cons (o := ?oi32) ?hi32 (fun K hK => ?st32) AllReadyH.nil
  case hi32 => rw [List.getElem?_toArray]; rfl
  go_simp
  have L0 := hid (made0 W1 w.heap.size W1.heap.size 9 rfl HZ.out.size)
  have ba : Below W1.heap.size W1 (W1.alloc (.cells #[] 9)) := (Below.refl _ _).alloc (Nat.le_refl _) _
  replace HT := hid (HT.out.bel ba)
  replace HQ := hid (HQ.out.bel ba)
  replace HO := hid (HO.out.bel ba)
  replace RI := hid (own_below RI.out ba)
  replace HZ := hid (HZ.out.to ba)
  clear ba
  generalize W1.alloc (.cells #[] 9) = wr0 at *
  generalize W1.heap.size = G0 at *
  refine hK.out _ _ ?hS32 (fun hHeld => ?re32)
  case hS32 => exact Box5.cells HT.out
  clear hK K
  (try simp only [Act.put, List.setIfInBounds_toArray, List.set_cons_zero, List.set_cons_succ])
  refine wpAnyH_ready (fuel := 3) (rs := [5]) (by kernel_rfl) (by simp) ?_
  refine AllReadyH.cons (o := ?oi33) ?hi33 (fun K hK => ?st33) AllReadyH.nil
  case hi33 => rw [List.getElem?_toArray]; rfl
  rw [if_pos (by first | rfl | kernel_rfl)]
  refine wp_append_own _ _ _ 26 rfl w.heap.size 9 j0 (.string ⟨#[]⟩) 1 16 Try.underlying26 hj hy0 hy1 hy2 rfl (by decide) _ _ _ rfl L0.out ⟨gb, 0, none⟩ i d ((vs.map Value.string).take i) rfl (by simp; omega) (SlV.front (HS.out.below HZ.out) (by omega)) (fun u hu => str_one vs u (List.mem_of_mem_take hu)) (by unfold maxLen; omega) (by omega) HZ.out.size ?_
  intro v1 wr5 hown1 hgrow1 _
  replace HT := hid (Box5.kept HT.out hgrow1 (Box5.not_row HT.out (by decide) L0.out))
  replace HQ := hid (Box5.kept HQ.out hgrow1 (Box5.not_row HQ.out (by decide) L0.out))
  replace HO := hid (Box5.kept HO.out hgrow1 (Box5.not_row HO.out (by decide) L0.out))
  replace RI := hid (RI.out.kept hgrow1 (rows_apart RI.out L0.out (by decide)))
  replace HZ := hid (HZ.out.grown hgrow1 HZ.out.size (own_base L0.out))
  have L1 := hid hown1
  clear hown1 hgrow1 L0
  refine hK.out _ _ ?hS33 (fun hHeld => ?re33)
  case hS33 => exact Box5.cells HT.out
  clear hK K
  (try simp only [Act.put, List.setIfInBounds_toArray, List.set_cons_zero, List.set_cons_succ])
  refine wpAnyH_ready (fuel := 2) (rs := [11]) (by kernel_rfl) (by simp) ?_
  refine AllReadyH.cons (o := ?oi34) ?hi34 (fun K hK => ?st34) AllReadyH.nil
  case hi34 => rw [List.getElem?_toArray]; rfl
  rw [if_pos (by first | rfl | kernel_rfl)]
  refine wp_append_own _ _ _ 26 rfl w.heap.size 9 j0 (.string ⟨#[]⟩) 1 16 Try.underlying26 hj hy0 hy1 hy2 rfl (by decide) _ _ _ rfl L1.out ⟨gb, o2, none⟩ (vs.length - (i + 1)) (d - (i + 1)) ((vs.map Value.string).drop (i + 1)) rfl (by simp) (SlV.back (HS.out.below HZ.out) ho2) (fun u hu => str_one vs u (List.mem_of_mem_drop hu)) (by unfold maxLen; omega) (by omega) HZ.out.size ?_
  intro v2 wr11 hown2 hgrow2 _
  replace HT := hid (Box5.kept HT.out hgrow2 (Box5.not_row HT.out (by decide) L1.out))
  replace HQ := hid (Box5.kept HQ.out hgrow2 (Box5.not_row HQ.out (by decide) L1.out))
  replace HO := hid (Box5.kept HO.out hgrow2 (Box5.not_row HO.out (by decide) L1.out))
  replace RI := hid (RI.out.kept hgrow2 (rows_apart RI.out L1.out (by decide)))
  replace HZ := hid (HZ.out.grown hgrow2 HZ.out.size (own_base L1.out))
  have L2 := hid hown2
  clear hown2 hgrow2 L1
  have L3 : Hid (wr11.ownsRow w.heap.size 9 1 v2 VS.length (VS.map .string)) := by
    have e1 : VS.length = 0 + i + (vs.length - (i + 1)) := by rw [eVS.out]; simp; omega
    have e2 : VS.map .string = [] ++ (vs.map Value.string).take i ++ (vs.map Value.string).drop (i + 1) := by rw [eVS.out]; simp
    show wr11.ownsRow w.heap.size 9 1 v2 VS.length (VS.map .string)
    rw [e1, e2]
    exact L2.out
  obtain ⟨bk, dk, rfl⟩ := own_slice L3.out
  clear L2
  refine hK.out _ _ ?hS34 (fun hHeld => ?re34)
  case hS34 => exact Box5.cells HT.out
  clear hK K
  (try simp only [Act.put, List.setIfInBounds_toArray, List.set_cons_zero, List.set_cons_succ])
  refine wpAnyH_take (i := 12) (oi := ?oi35) (v := ?v35) (fuel := 1) ?hi35 ?hs35 ?hf35 ?hr35 ?hq35 (Or.inl ⟨?hw35, ?hy35⟩) hHeld ?rest35
  case hi35 => rw [List.getElem?_toArray]; rfl
  case hq35 => exact fun _ _ _ h => h
  case hs35 | hf35 | hr35 => kernel_rfl
  case hw35 => rfl
  case hy35 => (intro w1 hSw; (try dsimp only at hSw); go_simp; try with_reducible rfl)
  (try simp only [Act.put, List.setIfInBounds_toArray, List.set_cons_zero, List.set_cons_succ])
  refine wpAnyH_ready (fuel := 0) (rs := [13]) (by kernel_rfl) (by simp) ?_
  refine AllReadyH.cons (o := ?oi36) ?hi36 (fun K hK => ?st36) AllReadyH.nil
  case hi36 => rw [List.getElem?_toArray]; rfl
  obtain ⟨x0, x1, x2, x3, x4⟩ := Box5.cells HO.out
  have xl := Box5.lt HO.out
  have xf := Box5.frozen HO.out
  go_simp
  clear x0 x1 x2 x3 x4 xl xf
  refine hK.out _ _ ?hS36 (fun hHeld => ?re36)
  case hS36 => exact Box5.cells (Box5.kept HT.out (grownBy_setCell5 wr11 O 4 (.slice bk VS.length dk)) (by simp; omega))
  clear hK K
  (try simp only [Act.put, List.setIfInBounds_toArray, List.set_cons_zero, List.set_cons_succ])
  refine wpAnyH_done (by kernel_rfl) ?_ _
  clear hHeld
  have HO2 := hid (Box5.set4 (.slice bk VS.length dk) HO.out)
  have HT2 := hid (Box5.kept HT.out (grownBy_setCell5 wr11 O 4 (.slice bk VS.length dk)) (by simp; omega))
  have HQ2 := hid (Box5.kept HQ.out (grownBy_setCell5 wr11 O 4 (.slice bk VS.length dk)) (by simp; omega))
  have L4 := hid (L3.out.kept (grownBy_setCell5 wr11 O 4 (.slice bk VS.length dk)) (.inr (Box5.not_row HO.out (by decide) L3.out).symm))
  have RI2 := hid (RI.out.kept (grownBy_setCell5 wr11 O 4 (.slice bk VS.length dk)) (.inr (Box5.not_row HO.out (by decide) RI.out).symm))
  have HZ2 := hid (HZ.out.setCell (p := ⟨O, 4, none⟩) (by show w.heap.size ≤ O; omega) (.slice bk VS.length dk))
  clear HO HT HQ RI HZ L3
  generalize wr11.setCell ⟨O, 4, none⟩ (.slice bk VS.length dk) = w7 at *
  have HO := HO2
  have HT := HT2
  have HQ := HQ2
  have RI := RI2
  have HZ := HZ2
  have L := L4
  clear HO2 HT2 HQ2 RI2 HZ2 L4
  have R5 := hid (row_st5 HQ.out (by decide) RI.out (k' := k) (s' := s) (r' := r) (v' := .slice ak KS.length ck) (u' := .slice bk VS.length dk))
  have S5 := hid (row_st5 HQ.out (by decide) L.out (k' := k) (s' := s) (r' := r) (v' := .slice ak KS.length ck) (u' := .slice bk VS.length dk))
  have B5' := hid (st5_below (w.heap.size + 1) k s r (.slice ak KS.length ck) (.slice bk VS.length dk) HZ.out (by omega))
  have P5 := hid (Box5.cells (Box5.st5 HQ.out (k' := k) (s' := s) (r' := r) (v' := .slice ak KS.length ck) (u' := .slice bk VS.length dk)))
  obtain ⟨x0, x1, x2, x3, x4⟩ := Box5.cells HO.out
  have xl := Box5.lt HO.out
  have xf := Box5.frozen HO.out
  obtain ⟨y0, y1, y2, y3, y4⟩ := Box5.cells HQ.out
  have yl := Box5.lt HQ.out
  have yf := Box5.frozen HQ.out
  go_wp2_with fail
  obtain ⟨p0, p1, p2, p3, p4⟩ := P5.out
  unfold st5 at p0 p1 p2 p3 p4
  refine bodyPost_ret (v := .tuple #[.agg #[.int .i64 k, .int .i64 s, .int .i64 r, .slice ak KS.length ck, .slice bk VS.length dk], .bool true]) (by simp [results, Try.results22, go_sem, p0, p1, p2, p3, p4]) rfl ?_
  rw [HD.out]
  exact ⟨_, rfl, ⟨_, _, rfl, R5.out, S5.out⟩, B5'.out⟩

end Go.Proofs.Ytahbicegmioplaa
