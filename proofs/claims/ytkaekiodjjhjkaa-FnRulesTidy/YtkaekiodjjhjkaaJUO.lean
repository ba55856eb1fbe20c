/- Copies and puts of the specification, whose table is a row of its own or nil. -/
import Derived.Test.YtkaekiodjjhjkaaJGrp16
import Derived.Laws.AppendOwnNone
set_option maxRecDepth 100000
set_option maxHeartbeats 4000000
set_option linter.unusedSimpArgs false
set_option linter.unusedVariables false
namespace Go.Proofs.Ytkaekiodjjhjkaa.G
open Go.RowKit
theorem wpList_append_row {P : Program} (w : World) {ops : Array Oper} {rest : List Oper} {o : Oper} {a : Act} {Q : Exit → Act → World → Prop} (hgd : o.guard = none) (s x : Operand) (t : TypeId)
 (ho : o.op = .call { callee := .builtin .append, args := #[s, x], argTypes := #[t, t] })
 (base : Nat) (e : TypeId) (i : TypeInfo) (z : Value) (size bytes : Nat) (ht : P.underlying t = some (.slice e)) (hi : P.info? e = some i) (hz : i.zero = some z)
 (hsize : i.size = size) (hby : i.bytes = bytes) (hzs : z.cells.size = size) (hsz : 0 < size)
 (v : Value) (n : Nat) (xs : List Value) (hs : a.eval s = v) (hown : w.ownsRow base e size v n xs)
 (base2 : Nat) (v2 : Value) (m : Nat) (news : List Value) (hx : a.eval x = v2) (hsrc : w.ownsRow base2 e size v2 m news) (h1 : ∀ u ∈ news, u.oneCell' = true)
 (h63 : n + m ≤ maxLen) (hbytes : (n + m) * bytes ≤ 140737488355328) (hbase : base ≤ w.heap.size)
 (h : ∀ v' w', w'.ownsRow base e size v' (n + m) (xs ++ news) → w.grownBy w' v.ownBlock → (v' = .slice none 0 0 ↔ v = .slice none 0 0 ∧ m = 0) → wpList P ops Q rest (a.put o.dst v') w') : wpList P ops Q (o :: rest) a w := by
 have hsrc' := hsrc
 rcases hsrc.2 with ⟨rfl, rfl⟩ | ⟨g, cap, cur, rfl, _, hg, hc, hcm, hcs, htk⟩
 ·have hl : news = [] := List.length_eq_zero_iff.1 (by have := hsrc.1; omega)
  subst hl
  exact wpList_append_own_none hgd s x t ho base e i size ht hi v n xs hs hown hx (h v w (by simpa using hown) ⟨rfl, rfl, rfl, Nat.le_refl _, fun _ _ _ => rfl⟩ (by simp))
 ·refine wpList_append_own w hgd s x t ho base e i z size bytes ht hi hz hsize hby hzs hsz v n xs hs hown ⟨g, 0, none⟩ m cap news hx hsrc.1 (fun j u hj => ?_) h1 h63 hbytes hbase h
  have hj' : j < news.length := (List.getElem?_eq_some_iff.1 hj).1
  have hj2 := hsrc.1
  rw [Addr.add_lit, Nat.zero_add, hsrc'.cellAt j (by omega)]
  exact hj
theorem own_strs' {w : World} {n₀ : Nat} {a : Option Addr} {c : Nat} {xs : List ByteArray} (h : w.ownsRow n₀ 9 1 (.slice a xs.length c) xs.length (xs.map .string)) : ArgS w a xs := by
 obtain ⟨a', c', e, hA, _⟩ := own_strs h
 cases e
 exact hA
theorem f49o (k s r : Int) (ks : List Int) (vs : List ByteArray) (a b : Option Addr) (n₁ n₂ c d : Nat) (w : World) (hA : w.ownsRow n₁ 3 1 (.slice a ks.length c) ks.length (ks.map (.int .i64))) (hB : w.ownsRow n₂ 9 1 (.slice b vs.length d) vs.length (vs.map .string)) (hn : ks.length ≤ 1048576) (hm : vs.length ≤ 1048576) :
 Calls Try.prog 86 #[.agg #[.int .i64 k, .int .i64 s, .int .i64 r, .slice a ks.length c, .slice b vs.length d]] w fun e w' => ∃ V, e = .returned V ∧ Tab w.heap.size w' k s r ks vs V ∧ Below w.heap.size w w' := by
 obtain ⟨i0, hi, hz0, hz1, hz2⟩ := info_parts info3
 obtain ⟨j0, hj, hy0, hy1, hy2⟩ := info_parts info9
 have HA := hid hA
 have HB := hid hB
 clear hA hB
 have c3 : Below w.heap.size w (((w.alloc (.cells #[.int .i64 k, .int .i64 s, .int .i64 r, .slice a ks.length c, .slice b vs.length d] 89)).alloc (.cells #[.int .i64 0, .int .i64 0, .int .i64 0, .slice none 0 0, .slice none 0 0] 89)).alloc (.cells #[.int .i64 k, .int .i64 s, .int .i64 r, .slice a ks.length c, .slice b vs.length d] 89)) := (((Below.refl _ w).alloc (Nat.le_refl _) _).alloc (by simp) _).alloc (by simp; omega) _
 have bR : Box5 (((w.alloc (.cells #[.int .i64 k, .int .i64 s, .int .i64 r, .slice a ks.length c, .slice b vs.length d] 89)).alloc (.cells #[.int .i64 0, .int .i64 0, .int .i64 0, .slice none 0 0, .slice none 0 0] 89)).alloc (.cells #[.int .i64 k, .int .i64 s, .int .i64 r, .slice a ks.length c, .slice b vs.length d] 89)) (w.heap.size + 1) 0 0 0 (.slice none 0 0) (.slice none 0 0) := by
  have := World.alloc_heap_new (w.alloc (.cells #[.int .i64 k, .int .i64 s, .int .i64 r, .slice a ks.length c, .slice b vs.length d] 89)) (.cells #[.int .i64 0, .int .i64 0, .int .i64 0, .slice none 0 0, .slice none 0 0] 89)
  have h1 : Box5 ((w.alloc (.cells #[.int .i64 k, .int .i64 s, .int .i64 r, .slice a ks.length c, .slice b vs.length d] 89)).alloc (.cells #[.int .i64 0, .int .i64 0, .int .i64 0, .slice none 0 0, .slice none 0 0] 89)) (w.heap.size + 1) 0 0 0 (.slice none 0 0) (.slice none 0 0) := by simpa [Box5] using this
  exact Box5.kept h1 (World.grownBy_alloc _ _ none) (by simp)
 have bO : Box5 (((w.alloc (.cells #[.int .i64 k, .int .i64 s, .int .i64 r, .slice a ks.length c, .slice b vs.length d] 89)).alloc (.cells #[.int .i64 0, .int .i64 0, .int .i64 0, .slice none 0 0, .slice none 0 0] 89)).alloc (.cells #[.int .i64 k, .int .i64 s, .int .i64 r, .slice a ks.length c, .slice b vs.length d] 89)) (w.heap.size + 1 + 1) k s r (.slice a ks.length c) (.slice b vs.length d) := by have := World.alloc_heap_new ((w.alloc (.cells #[.int .i64 k, .int .i64 s, .int .i64 r, .slice a ks.length c, .slice b vs.length d] 89)).alloc (.cells #[.int .i64 0, .int .i64 0, .int .i64 0, .slice none 0 0, .slice none 0 0] 89)) (.cells #[.int .i64 k, .int .i64 s, .int .i64 r, .slice a ks.length c, .slice b vs.length d] 89); simpa [Box5] using this
 have bT : Box5 (((w.alloc (.cells #[.int .i64 k, .int .i64 s, .int .i64 r, .slice a ks.length c, .slice b vs.length d] 89)).alloc (.cells #[.int .i64 0, .int .i64 0, .int .i64 0, .slice none 0 0, .slice none 0 0] 89)).alloc (.cells #[.int .i64 k, .int .i64 s, .int .i64 r, .slice a ks.length c, .slice b vs.length d] 89)) w.heap.size k s r (.slice a ks.length c) (.slice b vs.length d) := by
  have := World.alloc_heap_new w (.cells #[.int .i64 k, .int .i64 s, .int .i64 r, .slice a ks.length c, .slice b vs.length d] 89)
  have h1 : Box5 (w.alloc (.cells #[.int .i64 k, .int .i64 s, .int .i64 r, .slice a ks.length c, .slice b vs.length d] 89)) w.heap.size k s r (.slice a ks.length c) (.slice b vs.length d) := this
  exact Box5.kept (Box5.kept h1 (World.grownBy_alloc _ _ none) (by simp)) (World.grownBy_alloc _ _ none) (by simp)
 have o1 : ((((w.alloc (.cells #[.int .i64 k, .int .i64 s, .int .i64 r, .slice a ks.length c, .slice b vs.length d] 89)).alloc (.cells #[.int .i64 0, .int .i64 0, .int .i64 0, .slice none 0 0, .slice none 0 0] 89)).alloc (.cells #[.int .i64 k, .int .i64 s, .int .i64 r, .slice a ks.length c, .slice b vs.length d] 89)).alloc (.cells #[] 3)).ownsRow w.heap.size 3 1 (.slice (some ⟨w.heap.size + 1 + 1 + 1, 0, none⟩) 0 0) 0 [] := made0 _ _ _ _ (by simp) (by simp; omega)
 have c4 : Below w.heap.size w ((((w.alloc (.cells #[.int .i64 k, .int .i64 s, .int .i64 r, .slice a ks.length c, .slice b vs.length d] 89)).alloc (.cells #[.int .i64 0, .int .i64 0, .int .i64 0, .slice none 0 0, .slice none 0 0] 89)).alloc (.cells #[.int .i64 k, .int .i64 s, .int .i64 r, .slice a ks.length c, .slice b vs.length d] 89)).alloc (.cells #[] 3)) := c3.alloc (by simp; omega) _
 have HBR := hid bR
 have HBO := hid bO
 have HBT := hid bT
 have HO1 := hid o1
 clear bR bO bT o1
 have N1 := own_below HA.out c4
 have HN1 := hid N1
 clear N1
 go_enter Try.func86, Try.ntmps86
 go_wp2_with (first
  | (at_builtin; go_must (refine wpList_append_row _ rfl _ _ 42 rfl w.heap.size 3 i0 (.int .i64 0) 1 8 Try.underlying42 hi hz0 hz1 hz2 rfl (by decide) _ _ _ rfl HO1.out n₁ (.slice a ks.length c) ks.length (ks.map (.int .i64)) rfl HN1.out (int_one ks) (by unfold maxLen; omega) (by omega) (by simp; omega) ?_)))
 intro v1 w1 hown1 hgrow1 _
 have hown1' : w1.ownsRow w.heap.size 3 1 v1 ks.length (ks.map (.int .i64)) := by simpa using hown1
 have d1 : Below (w.heap.size + 1 + 1 + 1) (((w.alloc (.cells #[.int .i64 k, .int .i64 s, .int .i64 r, .slice a ks.length c, .slice b vs.length d] 89)).alloc (.cells #[.int .i64 0, .int .i64 0, .int .i64 0, .slice none 0 0, .slice none 0 0] 89)).alloc (.cells #[.int .i64 k, .int .i64 s, .int .i64 r, .slice a ks.length c, .slice b vs.length d] 89)) w1 := ((Below.refl _ _).alloc (by simp) _).grown hgrow1 (by simp) (fun q e => by simp [Value.ownBlock] at e; omega)
 have bR1 := Box5.below HBR.out d1 (by omega)
 have bO1 := Box5.below HBO.out d1 (by omega)
 have bT1 := Box5.below HBT.out d1 (by omega)
 have e1 : Below w.heap.size w w1 := c3.trans (d1.mono (by omega))
 have z1 := d1.size
 simp only [World.size_alloc] at z1
 obtain ⟨a1, cap1, rfl⟩ := own_slice hown1'
 have bR2 := Box5.kept bR1 (grownBy_setCell5 w1 (w.heap.size + 1 + 1) 3 (.slice a1 ks.length cap1)) (by simp)
 have bT2 := Box5.kept bT1 (grownBy_setCell5 w1 (w.heap.size + 1 + 1) 3 (.slice a1 ks.length cap1)) (by simp; omega)
 have bO2 := Box5.set3 (.slice a1 ks.length cap1) bO1
 have r2 := hown1'.kept (grownBy_setCell5 w1 (w.heap.size + 1 + 1) 3 (.slice a1 ks.length cap1)) (.inr (Box5.not_row bO1 (by decide) hown1').symm)
 have e2 : Below w.heap.size w (w1.setCell ⟨w.heap.size + 1 + 1, 3, none⟩ (.slice a1 ks.length cap1)) := e1.setCell (by simp; omega) _
 have o2 : ((w1.setCell ⟨w.heap.size + 1 + 1, 3, none⟩ (.slice a1 ks.length cap1)).alloc (.cells #[] 9)).ownsRow w.heap.size 9 1 (.slice (some ⟨w1.heap.size, 0, none⟩) 0 0) 0 [] := made0 _ _ _ _ (by simp) (by simp; omega)
 have e3 : Below w.heap.size w ((w1.setCell ⟨w.heap.size + 1 + 1, 3, none⟩ (.slice a1 ks.length cap1)).alloc (.cells #[] 9)) := e2.alloc (by simp; omega) _
 have N2 := own_below HB.out e3
 obtain ⟨t0, t1, t2, t3, t4⟩ := Box5.cells bT1
 have x0 : w.heap.size < w1.heap.size := by omega
 have x1 : w.heap.size + 1 < w1.heap.size := by omega
 have x2 : w.heap.size + 1 + 1 < w1.heap.size := by omega
 obtain ⟨m0, m1, m2, m3, m4⟩ := Box5.cells bO1
 have fO1 := Box5.frozen bO1
 have HR2 := hid r2
 have HO2 := hid o2
 have HN2 := hid N2
 have HBO2 := hid bO2
 have HBR2 := hid bR2
 clear r2 o2 N2 bO2 bR2 bT2 bO1 bR1 bT1 hown1 hown1' hgrow1
 go_wp2_with (first
  | (at_builtin; go_must (refine wpList_append_row _ rfl _ _ 84 rfl w.heap.size 9 j0 (.string ⟨#[]⟩) 1 16 Try.underlying84 hj hy0 hy1 hy2 rfl (by decide) _ _ _ rfl HO2.out n₂ (.slice b vs.length d) vs.length (vs.map .string) rfl HN2.out (str_one vs) (by unfold maxLen; omega) (by omega) (by simp; omega) ?_)))
 intro v2 w2 hown2 hgrow2 _
 have hown2' : w2.ownsRow w.heap.size 9 1 v2 vs.length (vs.map .string) := by simpa using hown2
 have d2 : Below w1.heap.size (w1.setCell ⟨w.heap.size + 1 + 1, 3, none⟩ (.slice a1 ks.length cap1)) w2 := ((Below.refl _ _).alloc (by simp) _).grown hgrow2 (by simp) (fun q e => by simp [Value.ownBlock] at e; omega)
 have bR3 := Box5.below HBR2.out d2 (by omega)
 have bO3 := Box5.below HBO2.out d2 (by omega)
 have r3 := (World.ownsRow.alloc HR2.out (.cells #[] 9)).kept hgrow2 (rows_apart (World.ownsRow.alloc HR2.out (.cells #[] 9)) HO2.out (by decide))
 have e4 : Below w.heap.size w w2 := e2.trans (d2.mono (by omega))
 obtain ⟨a2, cap2, rfl⟩ := own_slice hown2'
 have bR4 := Box5.kept bR3 (grownBy_setCell5 w2 (w.heap.size + 1 + 1) 4 (.slice a2 vs.length cap2)) (by simp)
 have bO4 := Box5.set4 (.slice a2 vs.length cap2) bO3
 have r4 := r3.kept (grownBy_setCell5 w2 (w.heap.size + 1 + 1) 4 (.slice a2 vs.length cap2)) (.inr (Box5.not_row bO3 (by decide) r3).symm)
 have q4 := hown2'.kept (grownBy_setCell5 w2 (w.heap.size + 1 + 1) 4 (.slice a2 vs.length cap2)) (.inr (Box5.not_row bO3 (by decide) hown2').symm)
 have e5 : Below w.heap.size w (w2.setCell ⟨w.heap.size + 1 + 1, 4, none⟩ (.slice a2 vs.length cap2)) := e4.setCell (by simp; omega) _
 have R5 := row_st5 bR4 (by decide) r4 (k' := k) (s' := s) (r' := r) (v' := .slice a1 ks.length cap1) (u' := .slice a2 vs.length cap2)
 have T5 := row_st5 bR4 (by decide) q4 (k' := k) (s' := s) (r' := r) (v' := .slice a1 ks.length cap1) (u' := .slice a2 vs.length cap2)
 have B5 := st5_below (w.heap.size + 1) k s r (.slice a1 ks.length cap1) (.slice a2 vs.length cap2) e5 (by omega)
 have P5 := Box5.cells (Box5.st5 bR4 (k' := k) (s' := s) (r' := r) (v' := .slice a1 ks.length cap1) (u' := .slice a2 vs.length cap2))
 obtain ⟨u0, u1, u2, u3, u4⟩ := Box5.cells bO3
 have fO3 := Box5.frozen bO3
 obtain ⟨y0, y1, y2, y3, y4⟩ := Box5.cells bR3
 have fR4 := Box5.frozen bR3
 have HR5 := hid R5
 have HT5 := hid T5
 have HB5 := hid B5
 have HP5 := hid P5
 clear R5 T5 B5 P5 r3 r4 q4 hown2 hown2' hgrow2 bR3 bO3 bR4 bO4
 go_wp2_with fail
 obtain ⟨p0, p1, p2, p3, p4⟩ := HP5.out
 unfold st5 at p0 p1 p2 p3 p4
 refine bodyPost_ret (v := .agg #[.int .i64 k, .int .i64 s, .int .i64 r, .slice a1 ks.length cap1, .slice a2 vs.length cap2]) (by simp [results, Try.results86, go_sem, p0, p1, p2, p3, p4]) rfl ?_
 exact ⟨_, rfl, ⟨_, _, rfl, HR5.out, HT5.out⟩, HB5.out⟩
theorem f20o (k s r : Int) (ks : List Int) (vs : List ByteArray) (a b : Option Addr) (n₁ n₂ c d : Nat) (key : Int) (val : ByteArray) (w : World) (hI : w.ownsRow n₁ 3 1 (.slice a ks.length c) ks.length (ks.map (.int .i64))) (hS : w.ownsRow n₂ 9 1 (.slice b vs.length d) vs.length (vs.map .string)) (hkm : ks.length ≤ 1048576) (hvm : vs.length ≤ 1048576) (hval : val.size ≤ 1048576) :
 Calls Try.prog 70 #[.agg #[.int .i64 k, .int .i64 s, .int .i64 r, .slice a ks.length c, .slice b vs.length d], .int .i64 key, .string val] w fun e w' => ∃ V, e = .returned (.tuple #[V, .int .i64 (putT k s r ks vs key val).code]) ∧ Tab w.heap.size w' (putT k s r ks vs key val).k (putT k s r ks vs key val).s (putT k s r ks vs key val).r (putT k s r ks vs key val).ks (putT k s r ks vs key val).vs V ∧ Below w.heap.size w w' := by
 have hvl : val.size ≤ maxLen := by unfold maxLen; omega
 have hA : ArgI w a ks := own_ints' hI
 have hB : ArgS w b vs := own_strs' hS
 have HA := hid hA
 have HB := hid hB
 have HI := hid hI
 have HS := hid hS
 clear hA hB hI hS
 have c2 : Below w.heap.size w ((w.alloc (.cells #[.int .i64 k, .int .i64 s, .int .i64 r, .slice a ks.length c, .slice b vs.length d] 89)).alloc (.cells #[.int .i64 0, .int .i64 0, .int .i64 0, .slice none 0 0, .slice none 0 0] 89)) := ((Below.refl _ w).alloc (Nat.le_refl _) _).alloc (by simp) _
 have bR : Box5 ((w.alloc (.cells #[.int .i64 k, .int .i64 s, .int .i64 r, .slice a ks.length c, .slice b vs.length d] 89)).alloc (.cells #[.int .i64 0, .int .i64 0, .int .i64 0, .slice none 0 0, .slice none 0 0] 89)) (w.heap.size + 1) 0 0 0 (.slice none 0 0) (.slice none 0 0) := by have := World.alloc_heap_new (w.alloc (.cells #[.int .i64 k, .int .i64 s, .int .i64 r, .slice a ks.length c, .slice b vs.length d] 89)) (.cells #[.int .i64 0, .int .i64 0, .int .i64 0, .slice none 0 0, .slice none 0 0] 89); simpa [Box5] using this
 have bT : Box5 ((w.alloc (.cells #[.int .i64 k, .int .i64 s, .int .i64 r, .slice a ks.length c, .slice b vs.length d] 89)).alloc (.cells #[.int .i64 0, .int .i64 0, .int .i64 0, .slice none 0 0, .slice none 0 0] 89)) w.heap.size k s r (.slice a ks.length c) (.slice b vs.length d) := by
  have := World.alloc_heap_new w (.cells #[.int .i64 k, .int .i64 s, .int .i64 r, .slice a ks.length c, .slice b vs.length d] 89)
  have h1 : Box5 (w.alloc (.cells #[.int .i64 k, .int .i64 s, .int .i64 r, .slice a ks.length c, .slice b vs.length d] 89)) w.heap.size k s r (.slice a ks.length c) (.slice b vs.length d) := this
  exact Box5.kept h1 (World.grownBy_alloc _ _ none) (by simp)
 have HBR := hid bR
 have HBT := hid bT
 have HC2 := hid c2
 clear bR bT c2
 cases hok : okB k s r ks vs
 case false =>
  have hT : putT k s r ks vs key val = ⟨0, 0, 0, [], [], 1⟩ := by unfold putT; rw [hok, if_neg (by simp)]
  have HT := hid hT
  clear hT
  go_enter Try.func70, Try.ntmps70
  go_wp2_with fail
  refine (f28b k s r ks vs _ _ c d _ (ArgI.below HA.out HC2.out (Nat.le_refl _)) (ArgS.below HB.out HC2.out (Nat.le_refl _))).mono ?_
  rw [hok]
  rintro e w1 ⟨rfl, hb1⟩
  have bR1 := Box5.below HBR.out hb1 (by simp)
  have bT1 := Box5.below HBT.out hb1 (by simp; omega)
  have c1 : Below w.heap.size w w1 := HC2.out.trans (hb1.mono (by simp; omega))
  have z1 := hb1.size
  simp only [World.size_alloc] at z1
  have x1 : w.heap.size < w1.heap.size := by omega
  have x2 : w.heap.size + 1 < w1.heap.size := by omega
  obtain ⟨t0, t1, t2, t3, t4⟩ := Box5.cells bT1
  clear hb1
  have B5 := st5_below (w.heap.size + 1) 0 0 0 (.slice none 0 0) (.slice none 0 0) c1 (by omega)
  have P5 := Box5.cells (Box5.st5 bR1 (k' := 0) (s' := 0) (r' := 0) (v' := .slice none 0 0) (u' := .slice none 0 0))
  obtain ⟨y0, y1, y2, y3, y4⟩ := Box5.cells bR1
  have fR := Box5.frozen bR1
  have HB5 := hid B5
  have HP5 := hid P5
  clear B5 P5
  go_wp2_with fail
  obtain ⟨p0, p1, p2, p3, p4⟩ := HP5.out
  unfold st5 at p0 p1 p2 p3 p4
  refine bodyPost_ret (v := .tuple #[.agg #[.int .i64 0, .int .i64 0, .int .i64 0, .slice none 0 0, .slice none 0 0], .int .i64 1]) (by simp [results, Try.results70, go_sem, p0, p1, p2, p3, p4]) rfl ?_
  rw [HT.out]
  exact ⟨_, rfl, Tab.nil _ _ _ _ _, HB5.out⟩
 have hsh := shape2_len (okB_true.1 hok).shape
 have HSH := hid hsh
 have hk8 : ks.length ≤ 8 := by omega
 clear hsh
 cases hnb : inB key 0 4294967295
 case false =>
  have hT : putT k s r ks vs key val = ⟨k, s, r, ks, vs, 1⟩ := by
   have e : codeI k s r ks key val = 1 := by unfold codeI; rw [if_pos (.inl hnb)]
   unfold putT; rw [hok, if_pos rfl, e, if_neg (by omega)]
  have HT := hid hT
  clear hT
  go_enter Try.func70, Try.ntmps70
  go_wp2_with fail
  refine (f28b k s r ks vs _ _ c d _ (ArgI.below HA.out HC2.out (Nat.le_refl _)) (ArgS.below HB.out HC2.out (Nat.le_refl _))).mono ?_
  rw [hok]
  rintro e w1 ⟨rfl, hb1⟩
  have bR1 := Box5.below HBR.out hb1 (by simp)
  have bT1 := Box5.below HBT.out hb1 (by simp; omega)
  have c1 : Below w.heap.size w w1 := HC2.out.trans (hb1.mono (by simp; omega))
  have z1 := hb1.size
  simp only [World.size_alloc] at z1
  have x1 : w.heap.size < w1.heap.size := by omega
  have x2 : w.heap.size + 1 < w1.heap.size := by omega
  obtain ⟨t0, t1, t2, t3, t4⟩ := Box5.cells bT1
  clear hb1
  go_wp2_with (first | (go_at_call 46; refine (f48 _).mono ?_; rintro e w' ⟨rfl, hw⟩; rw [hw]; clear hw w') | (go_at_call 56; refine (f36 _ _ _ _).mono ?_; rintro e w' ⟨rfl, hw⟩; rw [hw]; clear hw w'))
  refine (f49o k s r ks vs a b n₁ n₂ c d _ (own_below HI.out c1) (own_below HS.out c1) hkm hvm).mono ?_
  rintro e w2 ⟨V, rfl, htab, hb2⟩
  obtain ⟨va, ub, rfl, rI0, rS0⟩ := htab
  have bR2 := Box5.below bR1 hb2 (by omega)
  have c2' : Below w.heap.size w w2 := c1.trans (hb2.mono (by omega))
  have z2 := hb2.size
  have rI1 := own_mono rI0 (show w.heap.size ≤ w1.heap.size by omega)
  have rS1 := own_mono rS0 (show w.heap.size ≤ w1.heap.size by omega)
  have rI := rI1
  have rS := rS1
  clear rI0 rS0 rI1 rS1
  obtain ⟨a3, cap3, rfl⟩ := own_slice rI
  obtain ⟨a4, cap4, rfl⟩ := own_slice rS
  have R5 := row_st5 bR2 (by decide) rI (k' := k) (s' := s) (r' := r) (v' := .slice a3 ks.length cap3) (u' := .slice a4 vs.length cap4)
  have T5 := row_st5 bR2 (by decide) rS (k' := k) (s' := s) (r' := r) (v' := .slice a3 ks.length cap3) (u' := .slice a4 vs.length cap4)
  have B5 := st5_below (w.heap.size + 1) k s r (.slice a3 ks.length cap3) (.slice a4 vs.length cap4) c2' (by omega)
  have P5 := Box5.cells (Box5.st5 bR2 (k' := k) (s' := s) (r' := r) (v' := .slice a3 ks.length cap3) (u' := .slice a4 vs.length cap4))
  obtain ⟨y0, y1, y2, y3, y4⟩ := Box5.cells bR2
  have fR := Box5.frozen bR2
  have HR5 := hid R5
  have HT5 := hid T5
  have HB5 := hid B5
  have HP5 := hid P5
  clear R5 T5 B5 P5 rI rS
  go_wp2_with fail
  obtain ⟨p0, p1, p2, p3, p4⟩ := HP5.out
  unfold st5 at p0 p1 p2 p3 p4
  refine bodyPost_ret (v := .tuple #[.agg #[.int .i64 k, .int .i64 s, .int .i64 r, .slice a3 ks.length cap3, .slice a4 vs.length cap4], .int .i64 1]) (by simp [results, Try.results70, go_sem, p0, p1, p2, p3, p4]) rfl ?_
  rw [HT.out]
  exact ⟨_, rfl, ⟨_, _, rfl, HR5.out, HT5.out⟩, HB5.out⟩
 cases hsz : ((val.size : Int) != s)
 case true =>
  have hT : putT k s r ks vs key val = ⟨k, s, r, ks, vs, 1⟩ := by
   have e : codeI k s r ks key val = 1 := by unfold codeI; rw [if_pos (.inr (by simpa using hsz))]
   unfold putT; rw [hok, if_pos rfl, e, if_neg (by omega)]
  have HT := hid hT
  clear hT
  go_enter Try.func70, Try.ntmps70
  go_wp2_with fail
  refine (f28b k s r ks vs _ _ c d _ (ArgI.below HA.out HC2.out (Nat.le_refl _)) (ArgS.below HB.out HC2.out (Nat.le_refl _))).mono ?_
  rw [hok]
  rintro e w1 ⟨rfl, hb1⟩
  have bR1 := Box5.below HBR.out hb1 (by simp)
  have bT1 := Box5.below HBT.out hb1 (by simp; omega)
  have c1 : Below w.heap.size w w1 := HC2.out.trans (hb1.mono (by simp; omega))
  have z1 := hb1.size
  simp only [World.size_alloc] at z1
  have x1 : w.heap.size < w1.heap.size := by omega
  have x2 : w.heap.size + 1 < w1.heap.size := by omega
  obtain ⟨t0, t1, t2, t3, t4⟩ := Box5.cells bT1
  clear hb1
  go_wp2_with (first | (go_at_call 46; refine (f48 _).mono ?_; rintro e w' ⟨rfl, hw⟩; rw [hw]; clear hw w') | (go_at_call 56; refine (f36 _ _ _ _).mono ?_; rintro e w' ⟨rfl, hw⟩; rw [hw]; clear hw w'))
  refine (f49o k s r ks vs a b n₁ n₂ c d _ (own_below HI.out c1) (own_below HS.out c1) hkm hvm).mono ?_
  rintro e w2 ⟨V, rfl, htab, hb2⟩
  obtain ⟨va, ub, rfl, rI0, rS0⟩ := htab
  have bR2 := Box5.below bR1 hb2 (by omega)
  have c2' : Below w.heap.size w w2 := c1.trans (hb2.mono (by omega))
  have z2 := hb2.size
  have rI1 := own_mono rI0 (show w.heap.size ≤ w1.heap.size by omega)
  have rS1 := own_mono rS0 (show w.heap.size ≤ w1.heap.size by omega)
  have rI := rI1
  have rS := rS1
  clear rI0 rS0 rI1 rS1
  obtain ⟨a3, cap3, rfl⟩ := own_slice rI
  obtain ⟨a4, cap4, rfl⟩ := own_slice rS
  have R5 := row_st5 bR2 (by decide) rI (k' := k) (s' := s) (r' := r) (v' := .slice a3 ks.length cap3) (u' := .slice a4 vs.length cap4)
  have T5 := row_st5 bR2 (by decide) rS (k' := k) (s' := s) (r' := r) (v' := .slice a3 ks.length cap3) (u' := .slice a4 vs.length cap4)
  have B5 := st5_below (w.heap.size + 1) k s r (.slice a3 ks.length cap3) (.slice a4 vs.length cap4) c2' (by omega)
  have P5 := Box5.cells (Box5.st5 bR2 (k' := k) (s' := s) (r' := r) (v' := .slice a3 ks.length cap3) (u' := .slice a4 vs.length cap4))
  obtain ⟨y0, y1, y2, y3, y4⟩ := Box5.cells bR2
  have fR := Box5.frozen bR2
  have HR5 := hid R5
  have HT5 := hid T5
  have HB5 := hid B5
  have HP5 := hid P5
  clear R5 T5 B5 P5 rI rS
  go_wp2_with fail
  obtain ⟨p0, p1, p2, p3, p4⟩ := HP5.out
  unfold st5 at p0 p1 p2 p3 p4
  refine bodyPost_ret (v := .tuple #[.agg #[.int .i64 k, .int .i64 s, .int .i64 r, .slice a3 ks.length cap3, .slice a4 vs.length cap4], .int .i64 1]) (by simp [results, Try.results70, go_sem, p0, p1, p2, p3, p4]) rfl ?_
  rw [HT.out]
  exact ⟨_, rfl, ⟨_, _, rfl, HR5.out, HT5.out⟩, HB5.out⟩
 case false =>
  have hf : ¬ (inB key 0 4294967295 = false ∨ (val.size : Int) ≠ s) := by simp at hsz; simp [hnb, hsz]
  have hT := putL_eq hok hf
  obtain ⟨⟨K, S, R, KS, VS, CO⟩, hT2⟩ : ∃ q, putT k s r ks vs key val = q := ⟨_, rfl⟩
  have HT := hid hT.symm
  have HT2 := hid hT2
  clear hT hf hT2
  go_enter Try.func70, Try.ntmps70
  go_wp2_with fail
  refine (f28b k s r ks vs _ _ c d _ (ArgI.below HA.out HC2.out (Nat.le_refl _)) (ArgS.below HB.out HC2.out (Nat.le_refl _))).mono ?_
  rw [hok]
  rintro e w1 ⟨rfl, hb1⟩
  have bR1 := Box5.below HBR.out hb1 (by simp)
  have bT1 := Box5.below HBT.out hb1 (by simp; omega)
  have c1 : Below w.heap.size w w1 := HC2.out.trans (hb1.mono (by simp; omega))
  have z1 := hb1.size
  simp only [World.size_alloc] at z1
  have x1 : w.heap.size < w1.heap.size := by omega
  have x2 : w.heap.size + 1 < w1.heap.size := by omega
  obtain ⟨t0, t1, t2, t3, t4⟩ := Box5.cells bT1
  clear hb1
  go_wp2_with (first | (go_at_call 46; refine (f48 _).mono ?_; rintro e w' ⟨rfl, hw⟩; rw [hw]; clear hw w') | (go_at_call 56; refine (f36 _ _ _ _).mono ?_; rintro e w' ⟨rfl, hw⟩; rw [hw]; clear hw w'))
  refine (f49o k s r ks vs a b n₁ n₂ c d _ (own_below HI.out c1) (own_below HS.out c1) hkm hvm).mono ?_
  rintro e w2 ⟨V, rfl, htab, hb2⟩
  obtain ⟨va, ub, rfl, rI0, rS0⟩ := htab
  have bR2 := Box5.below bR1 hb2 (by omega)
  have c2' : Below w.heap.size w w2 := c1.trans (hb2.mono (by omega))
  have z2 := hb2.size
  have rI1 := own_mono rI0 (show w.heap.size ≤ w1.heap.size by omega)
  have rS1 := own_mono rS0 (show w.heap.size ≤ w1.heap.size by omega)
  obtain ⟨a3, cap3, rfl⟩ := own_slice rI0
  obtain ⟨a4, cap4, rfl⟩ := own_slice rS0
  have HI0 := hid rI0
  have HS0 := hid rS0
  have l12 : w1.heap.size ≤ w2.heap.size := z2
  clear rI0 rS0 rI1 rS1
  go_wp2_with fail
  refine (f50 k s r ks vs a3 a4 cap3 cap4 key val w1.heap.size w2 HI0.out HS0.out l12 HSH.out.1 hk8).mono ?_
  rw [← HT.out, HT2.out]
  rintro e w3 ⟨V3, rfl, htab3, hb3⟩
  obtain ⟨va3, ub3, rfl, rI3, rS3⟩ := htab3
  have bR3 := Box5.below bR2 hb3 (by omega)
  have c3' : Below w.heap.size w w3 := c2'.trans (hb3.mono (by omega))
  have rI := own_mono rI3 (show w.heap.size ≤ w1.heap.size by omega)
  have rS := own_mono rS3 (show w.heap.size ≤ w1.heap.size by omega)
  obtain ⟨a5, cap5, rfl⟩ := own_slice rI
  obtain ⟨a6, cap6, rfl⟩ := own_slice rS
  clear rI3 rS3
  have R5 := row_st5 bR3 (by decide) rI (k' := K) (s' := S) (r' := R) (v' := .slice a5 KS.length cap5) (u' := .slice a6 VS.length cap6)
  have T5 := row_st5 bR3 (by decide) rS (k' := K) (s' := S) (r' := R) (v' := .slice a5 KS.length cap5) (u' := .slice a6 VS.length cap6)
  have B5 := st5_below (w.heap.size + 1) K S R (.slice a5 KS.length cap5) (.slice a6 VS.length cap6) c3' (by omega)
  have P5 := Box5.cells (Box5.st5 bR3 (k' := K) (s' := S) (r' := R) (v' := .slice a5 KS.length cap5) (u' := .slice a6 VS.length cap6))
  obtain ⟨y0, y1, y2, y3, y4⟩ := Box5.cells bR3
  have fR := Box5.frozen bR3
  have HR5 := hid R5
  have HT5 := hid T5
  have HB5 := hid B5
  have HP5 := hid P5
  clear R5 T5 B5 P5 rI rS
  go_wp2_with fail
  obtain ⟨p0, p1, p2, p3, p4⟩ := HP5.out
  unfold st5 at p0 p1 p2 p3 p4
  refine bodyPost_ret (v := .tuple #[.agg #[.int .i64 K, .int .i64 S, .int .i64 R, .slice a5 KS.length cap5, .slice a6 VS.length cap6], .int .i64 CO]) (by simp [results, Try.results70, go_sem, p0, p1, p2, p3, p4]) rfl ?_
  rw [HT2.out]
  exact ⟨_, rfl, ⟨_, _, rfl, HR5.out, HT5.out⟩, HB5.out⟩
end Go.Proofs.Ytkaekiodjjhjkaa.G
