/- A table's copy, of the specification. -/
import Derived.Test.YtkaekiodjjhjkaaQGrp2
import Derived.Test.YtkaekiodjjhjkaaQMA
namespace Go.Proofs.Ytkaekiodjjhjkaa.G
open Go.RowKit
set_option linter.unusedSimpArgs false
set_option linter.unusedVariables false

theorem int_news {w : World} {g : Nat} {xs : List Int} (h : IntRow w g 0 xs) : ∀ j u, (xs.map (Value.int .i64))[j]? = some u → w.cell? ((⟨g, 0, none⟩ : Addr).add j) = some u := by
  intro j u hj
  rw [List.getElem?_map] at hj
  obtain ⟨x, hx, rfl⟩ := Option.map_eq_some_iff.1 hj
  obtain ⟨hlt, rfl⟩ := List.getElem?_eq_some_iff.1 hx
  rw [Addr.add_lit]
  exact h j hlt
theorem str_news {w : World} {g : Nat} {xs : List ByteArray} (h : StrRow w g 0 xs) : ∀ j u, (xs.map Value.string)[j]? = some u → w.cell? ((⟨g, 0, none⟩ : Addr).add j) = some u := by
  intro j u hj
  rw [List.getElem?_map] at hj
  obtain ⟨x, hx, rfl⟩ := Option.map_eq_some_iff.1 hj
  obtain ⟨hlt, rfl⟩ := List.getElem?_eq_some_iff.1 hx
  rw [Addr.add_lit]
  exact h j hlt
theorem int_one (xs : List Int) : ∀ u ∈ xs.map (Value.int .i64), u.oneCell' = true := by
  intro u hu
  obtain ⟨x, _, rfl⟩ := List.mem_map.1 hu
  rfl
theorem str_one (xs : List ByteArray) : ∀ u ∈ xs.map Value.string, u.oneCell' = true := by
  intro u hu
  obtain ⟨x, _, rfl⟩ := List.mem_map.1 hu
  rfl
theorem made0 (w : World) (base B : Nat) (e : TypeId) (hB : B = w.heap.size) (hb : base ≤ w.heap.size) : (w.alloc (.cells #[] e)).ownsRow base e 1 (.slice (some ⟨B, 0, none⟩) 0 0) 0 [] := by
  subst hB
  exact World.ownsRow_made w #[] 0 hb (by unfold maxLen; omega) rfl

set_option maxRecDepth 100000 in
set_option maxHeartbeats 4000000 in
theorem f49 (k s r : Int) (ks : List Int) (vs : List ByteArray) (g1 g2 c d : Nat) (w : World) (hA : IntRow w g1 0 ks) (hB : StrRow w g2 0 vs) (l1 : g1 < w.heap.size) (l2 : g2 < w.heap.size) (hn : ks.length ≤ 1048576) (hm : vs.length ≤ 1048576) :
    Calls Try.prog 86 #[.agg #[.int .i64 k, .int .i64 s, .int .i64 r, .slice (some ⟨g1, 0, none⟩) ks.length c, .slice (some ⟨g2, 0, none⟩) vs.length d]] w fun e w' => ∃ V, e = .returned V ∧ Tab w.heap.size w' k s r ks vs V ∧ Below w.heap.size w w' := by
  obtain ⟨i0, hi, hz0, hz1, hz2⟩ := info_parts info3
  obtain ⟨j0, hj, hy0, hy1, hy2⟩ := info_parts info9
  have HA : Hid (IntRow w g1 0 ks) := hA
  have HB : Hid (StrRow w g2 0 vs) := hB
  clear hA hB
  have c3 : Below w.heap.size w (((w.alloc (.cells #[.int .i64 k, .int .i64 s, .int .i64 r, .slice (some ⟨g1, 0, none⟩) ks.length c, .slice (some ⟨g2, 0, none⟩) vs.length d] 89)).alloc (.cells #[.int .i64 0, .int .i64 0, .int .i64 0, .slice none 0 0, .slice none 0 0] 89)).alloc (.cells #[.int .i64 k, .int .i64 s, .int .i64 r, .slice (some ⟨g1, 0, none⟩) ks.length c, .slice (some ⟨g2, 0, none⟩) vs.length d] 89)) := (((Below.refl _ w).alloc (Nat.le_refl _) _).alloc (by simp) _).alloc (by simp; omega) _
  have bR : Box5 (((w.alloc (.cells #[.int .i64 k, .int .i64 s, .int .i64 r, .slice (some ⟨g1, 0, none⟩) ks.length c, .slice (some ⟨g2, 0, none⟩) vs.length d] 89)).alloc (.cells #[.int .i64 0, .int .i64 0, .int .i64 0, .slice none 0 0, .slice none 0 0] 89)).alloc (.cells #[.int .i64 k, .int .i64 s, .int .i64 r, .slice (some ⟨g1, 0, none⟩) ks.length c, .slice (some ⟨g2, 0, none⟩) vs.length d] 89)) (w.heap.size + 1) 0 0 0 (.slice none 0 0) (.slice none 0 0) := by
    have := World.alloc_heap_new (w.alloc (.cells #[.int .i64 k, .int .i64 s, .int .i64 r, .slice (some ⟨g1, 0, none⟩) ks.length c, .slice (some ⟨g2, 0, none⟩) vs.length d] 89)) (.cells #[.int .i64 0, .int .i64 0, .int .i64 0, .slice none 0 0, .slice none 0 0] 89)
    have h1 : Box5 ((w.alloc (.cells #[.int .i64 k, .int .i64 s, .int .i64 r, .slice (some ⟨g1, 0, none⟩) ks.length c, .slice (some ⟨g2, 0, none⟩) vs.length d] 89)).alloc (.cells #[.int .i64 0, .int .i64 0, .int .i64 0, .slice none 0 0, .slice none 0 0] 89)) (w.heap.size + 1) 0 0 0 (.slice none 0 0) (.slice none 0 0) := by simpa [Box5] using this
    exact Box5.kept h1 (World.grownBy_alloc _ _ none) (by simp)
  have bO : Box5 (((w.alloc (.cells #[.int .i64 k, .int .i64 s, .int .i64 r, .slice (some ⟨g1, 0, none⟩) ks.length c, .slice (some ⟨g2, 0, none⟩) vs.length d] 89)).alloc (.cells #[.int .i64 0, .int .i64 0, .int .i64 0, .slice none 0 0, .slice none 0 0] 89)).alloc (.cells #[.int .i64 k, .int .i64 s, .int .i64 r, .slice (some ⟨g1, 0, none⟩) ks.length c, .slice (some ⟨g2, 0, none⟩) vs.length d] 89)) (w.heap.size + 1 + 1) k s r (.slice (some ⟨g1, 0, none⟩) ks.length c) (.slice (some ⟨g2, 0, none⟩) vs.length d) := by have := World.alloc_heap_new ((w.alloc (.cells #[.int .i64 k, .int .i64 s, .int .i64 r, .slice (some ⟨g1, 0, none⟩) ks.length c, .slice (some ⟨g2, 0, none⟩) vs.length d] 89)).alloc (.cells #[.int .i64 0, .int .i64 0, .int .i64 0, .slice none 0 0, .slice none 0 0] 89)) (.cells #[.int .i64 k, .int .i64 s, .int .i64 r, .slice (some ⟨g1, 0, none⟩) ks.length c, .slice (some ⟨g2, 0, none⟩) vs.length d] 89); simpa [Box5] using this
  have bT : Box5 (((w.alloc (.cells #[.int .i64 k, .int .i64 s, .int .i64 r, .slice (some ⟨g1, 0, none⟩) ks.length c, .slice (some ⟨g2, 0, none⟩) vs.length d] 89)).alloc (.cells #[.int .i64 0, .int .i64 0, .int .i64 0, .slice none 0 0, .slice none 0 0] 89)).alloc (.cells #[.int .i64 k, .int .i64 s, .int .i64 r, .slice (some ⟨g1, 0, none⟩) ks.length c, .slice (some ⟨g2, 0, none⟩) vs.length d] 89)) w.heap.size k s r (.slice (some ⟨g1, 0, none⟩) ks.length c) (.slice (some ⟨g2, 0, none⟩) vs.length d) := by
    have := World.alloc_heap_new w (.cells #[.int .i64 k, .int .i64 s, .int .i64 r, .slice (some ⟨g1, 0, none⟩) ks.length c, .slice (some ⟨g2, 0, none⟩) vs.length d] 89)
    have h1 : Box5 (w.alloc (.cells #[.int .i64 k, .int .i64 s, .int .i64 r, .slice (some ⟨g1, 0, none⟩) ks.length c, .slice (some ⟨g2, 0, none⟩) vs.length d] 89)) w.heap.size k s r (.slice (some ⟨g1, 0, none⟩) ks.length c) (.slice (some ⟨g2, 0, none⟩) vs.length d) := this
    exact Box5.kept (Box5.kept h1 (World.grownBy_alloc _ _ none) (by simp)) (World.grownBy_alloc _ _ none) (by simp)
  have o1 : ((((w.alloc (.cells #[.int .i64 k, .int .i64 s, .int .i64 r, .slice (some ⟨g1, 0, none⟩) ks.length c, .slice (some ⟨g2, 0, none⟩) vs.length d] 89)).alloc (.cells #[.int .i64 0, .int .i64 0, .int .i64 0, .slice none 0 0, .slice none 0 0] 89)).alloc (.cells #[.int .i64 k, .int .i64 s, .int .i64 r, .slice (some ⟨g1, 0, none⟩) ks.length c, .slice (some ⟨g2, 0, none⟩) vs.length d] 89)).alloc (.cells #[] 3)).ownsRow w.heap.size 3 1 (.slice (some ⟨w.heap.size + 1 + 1 + 1, 0, none⟩) 0 0) 0 [] := made0 _ _ _ _ (by simp) (by simp; omega)
  have c4 : Below w.heap.size w ((((w.alloc (.cells #[.int .i64 k, .int .i64 s, .int .i64 r, .slice (some ⟨g1, 0, none⟩) ks.length c, .slice (some ⟨g2, 0, none⟩) vs.length d] 89)).alloc (.cells #[.int .i64 0, .int .i64 0, .int .i64 0, .slice none 0 0, .slice none 0 0] 89)).alloc (.cells #[.int .i64 k, .int .i64 s, .int .i64 r, .slice (some ⟨g1, 0, none⟩) ks.length c, .slice (some ⟨g2, 0, none⟩) vs.length d] 89)).alloc (.cells #[] 3)) := c3.alloc (by simp; omega) _
  have HBR := hid bR
  have HBO := hid bO
  have HBT := hid bT
  have HO1 := hid o1
  clear bR bO bT o1
  have N1 := int_news (IntRow.below HA.out c4 l1)
  have HN1 := hid N1
  clear N1
  go_enter Try.func86, Try.ntmps86
  go_wp2_with (first
    | (at_builtin; go_must (refine wpList_append_own _ rfl _ _ 42 rfl w.heap.size 3 i0 (.int .i64 0) 1 8 Try.underlying42 hi hz0 hz1 hz2 rfl (by decide) _ _ _ rfl HO1.out ⟨g1, 0, none⟩ ks.length c (ks.map (.int .i64)) rfl (by simp) HN1.out (int_one ks) (by unfold maxLen; omega) (by omega) (by simp; omega) ?_)))
  intro v1 w1 hown1 hgrow1 _
  have hown1' : w1.ownsRow w.heap.size 3 1 v1 ks.length (ks.map (.int .i64)) := by simpa using hown1
  have d1 : Below (w.heap.size + 1 + 1 + 1) (((w.alloc (.cells #[.int .i64 k, .int .i64 s, .int .i64 r, .slice (some ⟨g1, 0, none⟩) ks.length c, .slice (some ⟨g2, 0, none⟩) vs.length d] 89)).alloc (.cells #[.int .i64 0, .int .i64 0, .int .i64 0, .slice none 0 0, .slice none 0 0] 89)).alloc (.cells #[.int .i64 k, .int .i64 s, .int .i64 r, .slice (some ⟨g1, 0, none⟩) ks.length c, .slice (some ⟨g2, 0, none⟩) vs.length d] 89)) w1 := ((Below.refl _ _).alloc (by simp) _).grown hgrow1 (by simp) (fun q e => by simp [Value.ownBlock] at e; omega)
  have bR1 := Box5.below HBR.out d1 (by omega)
  have bO1 := Box5.below HBO.out d1 (by omega)
  have bT1 := Box5.below HBT.out d1 (by omega)
  have e1 : Below w.heap.size w w1 := c3.trans (d1.mono (by omega))
  have z1 := d1.size
  simp only [World.size_alloc] at z1
  obtain ⟨a1, cap1, rfl⟩ := own_slice hown1'
  have bR2 := Box5.kept bR1 (grownBy_setCell5 w1 (w.heap.size + 1 + 1) 3 (.slice a1 ks.length cap1)) (by simp)
  have bT2 := Box5.kept bT1 (grownBy_setCell5 w1 (w.heap.size + 1 + 1) 3 (.slice a1 ks.length cap1)) (by simp; omega)
  have bO2 := Box5.set3 (.slice a1 ks.length cap1) bO1
  have r2 := hown1'.kept (grownBy_setCell5 w1 (w.heap.size + 1 + 1) 3 (.slice a1 ks.length cap1)) (.inr (Box5.not_row bO1 (by decide) hown1').symm)
  have e2 : Below w.heap.size w (w1.setCell ⟨w.heap.size + 1 + 1, 3, none⟩ (.slice a1 ks.length cap1)) := e1.setCell (by simp; omega) _
  have o2 : ((w1.setCell ⟨w.heap.size + 1 + 1, 3, none⟩ (.slice a1 ks.length cap1)).alloc (.cells #[] 9)).ownsRow w.heap.size 9 1 (.slice (some ⟨w1.heap.size, 0, none⟩) 0 0) 0 [] := made0 _ _ _ _ (by simp) (by simp; omega)
  have e3 : Below w.heap.size w ((w1.setCell ⟨w.heap.size + 1 + 1, 3, none⟩ (.slice a1 ks.length cap1)).alloc (.cells #[] 9)) := e2.alloc (by simp; omega) _
  have N2 := str_news (StrRow.below HB.out e3 l2)
  obtain ⟨t0, t1, t2, t3, t4⟩ := Box5.cells bT1
  have x0 : w.heap.size < w1.heap.size := by omega
  have x1 : w.heap.size + 1 < w1.heap.size := by omega
  have x2 : w.heap.size + 1 + 1 < w1.heap.size := by omega
  obtain ⟨m0, m1, m2, m3, m4⟩ := Box5.cells bO1
  have fO1 := Box5.frozen bO1
  have HR2 := hid r2
  have HO2 := hid o2
  have HN2 := hid N2
  have HBO2 := hid bO2
  have HBR2 := hid bR2
  clear r2 o2 N2 bO2 bR2 bT2 bO1 bR1 bT1 hown1 hown1' hgrow1
  go_wp2_with (first
    | (at_builtin; go_must (refine wpList_append_own _ rfl _ _ 84 rfl w.heap.size 9 j0 (.string ⟨#[]⟩) 1 16 Try.underlying84 hj hy0 hy1 hy2 rfl (by decide) _ _ _ rfl HO2.out ⟨g2, 0, none⟩ vs.length d (vs.map .string) rfl (by simp) HN2.out (str_one vs) (by unfold maxLen; omega) (by omega) (by simp; omega) ?_)))
  intro v2 w2 hown2 hgrow2 _
  have hown2' : w2.ownsRow w.heap.size 9 1 v2 vs.length (vs.map .string) := by simpa using hown2
  have d2 : Below w1.heap.size (w1.setCell ⟨w.heap.size + 1 + 1, 3, none⟩ (.slice a1 ks.length cap1)) w2 := ((Below.refl _ _).alloc (by simp) _).grown hgrow2 (by simp) (fun q e => by simp [Value.ownBlock] at e; omega)
  have bR3 := Box5.below HBR2.out d2 (by omega)
  have bO3 := Box5.below HBO2.out d2 (by omega)
  have r3 := (World.ownsRow.alloc HR2.out (.cells #[] 9)).kept hgrow2 (rows_apart (World.ownsRow.alloc HR2.out (.cells #[] 9)) HO2.out (by decide))
  have e4 : Below w.heap.size w w2 := e2.trans (d2.mono (by omega))
  obtain ⟨a2, cap2, rfl⟩ := own_slice hown2'
  have bR4 := Box5.kept bR3 (grownBy_setCell5 w2 (w.heap.size + 1 + 1) 4 (.slice a2 vs.length cap2)) (by simp)
  have bO4 := Box5.set4 (.slice a2 vs.length cap2) bO3
  have r4 := r3.kept (grownBy_setCell5 w2 (w.heap.size + 1 + 1) 4 (.slice a2 vs.length cap2)) (.inr (Box5.not_row bO3 (by decide) r3).symm)
  have q4 := hown2'.kept (grownBy_setCell5 w2 (w.heap.size + 1 + 1) 4 (.slice a2 vs.length cap2)) (.inr (Box5.not_row bO3 (by decide) hown2').symm)
  have e5 : Below w.heap.size w (w2.setCell ⟨w.heap.size + 1 + 1, 4, none⟩ (.slice a2 vs.length cap2)) := e4.setCell (by simp; omega) _
  have R5 := row_st5 bR4 (by decide) r4 (k' := k) (s' := s) (r' := r) (v' := .slice a1 ks.length cap1) (u' := .slice a2 vs.length cap2)
  have T5 := row_st5 bR4 (by decide) q4 (k' := k) (s' := s) (r' := r) (v' := .slice a1 ks.length cap1) (u' := .slice a2 vs.length cap2)
  have B5 := st5_below (w.heap.size + 1) k s r (.slice a1 ks.length cap1) (.slice a2 vs.length cap2) e5 (by omega)
  have P5 := Box5.cells (Box5.st5 bR4 (k' := k) (s' := s) (r' := r) (v' := .slice a1 ks.length cap1) (u' := .slice a2 vs.length cap2))
  obtain ⟨u0, u1, u2, u3, u4⟩ := Box5.cells bO3
  have fO3 := Box5.frozen bO3
  obtain ⟨y0, y1, y2, y3, y4⟩ := Box5.cells bR3
  have fR4 := Box5.frozen bR3
  have HR5 := hid R5
  have HT5 := hid T5
  have HB5 := hid B5
  have HP5 := hid P5
  clear R5 T5 B5 P5 r3 r4 q4 hown2 hown2' hgrow2 bR3 bO3 bR4 bO4
  go_wp2_with fail
  obtain ⟨p0, p1, p2, p3, p4⟩ := HP5.out
  unfold st5 at p0 p1 p2 p3 p4
  refine bodyPost_ret (v := .agg #[.int .i64 k, .int .i64 s, .int .i64 r, .slice a1 ks.length cap1, .slice a2 vs.length cap2]) (by simp [results, Try.results86, go_sem, p0, p1, p2, p3, p4]) rfl ?_
  exact ⟨_, rfl, ⟨_, _, rfl, HR5.out, HT5.out⟩, HB5.out⟩

end Go.Proofs.Ytkaekiodjjhjkaa.G
