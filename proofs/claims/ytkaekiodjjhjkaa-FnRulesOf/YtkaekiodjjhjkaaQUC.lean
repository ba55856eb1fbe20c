/- A put into a table, of the specification. -/
import Derived.Test.YtkaekiodjjhjkaaQUB
import Derived.OneCell
namespace Go.Proofs.Ytkaekiodjjhjkaa.G
open Go.RowKit
set_option linter.unusedSimpArgs false
set_option linter.unusedVariables false

theorem own_set {w : World} {base e g n cap i : Nat} {xs : List Value} (h : w.ownsRow base e 1 (.slice (some ⟨g, 0, none⟩) n cap) n xs) (hi : i < n) (x : Value) : (w.setCell ⟨g, i, none⟩ x).ownsRow base e 1 (.slice (some ⟨g, 0, none⟩) n cap) n (xs.set i x) := by
  refine ⟨by rw [List.length_set]; exact h.1, ?_⟩
  rcases h.2 with ⟨h', _⟩ | ⟨g', cap', cur, h', hb, hg, h1, h2, h3, h4⟩
  · simp at h'
  · simp only [Value.slice.injEq, Option.some.injEq, Addr.mk.injEq, and_true, true_and] at h'
    obtain ⟨rfl, rfl⟩ := h'
    obtain ⟨hlt, hk⟩ := Array.getElem?_eq_some_iff.1 hg
    refine .inr ⟨g, cap, cur.setIfInBounds i x, rfl, hb, ?_, h1, h2, by simpa using h3, ?_⟩
    · show (w.heap.modify g _)[g]? = _
      rw [Array.getElem?_eq_getElem (by rw [Array.size_modify]; exact hlt), Array.getElem_modify_self, hk]
      rfl
    · rw [← h4]; simp [List.take_set]
theorem apart_ne {v : Value} {g n c : Nat} (h : (Value.slice (some ⟨g, 0, none⟩) n c).ownBlock = none ∨ (Value.slice (some ⟨g, 0, none⟩) n c).ownBlock ≠ v.ownBlock) : v.ownBlock ≠ some g := by
  rcases h with h | h
  · simp [Value.ownBlock] at h
  · intro e; exact h (by rw [e]; rfl)
theorem own_ints' {w : World} {n₀ : Nat} {a : Option Addr} {c : Nat} {xs : List Int} (h : w.ownsRow n₀ 3 1 (.slice a xs.length c) xs.length (xs.map (.int .i64))) : ArgI w a xs := by
  obtain ⟨a', c', e, h', _⟩ := own_ints h
  simp only [Value.slice.injEq, true_and] at e
  rw [e.1]; exact h'
theorem own_pos {w : World} {n₀ e s n c : Nat} {a : Option Addr} {xs : List Value} (h : w.ownsRow n₀ e s (.slice a n c) n xs) (hn : 0 < n) : ∃ g, a = some ⟨g, 0, none⟩ := by
  rcases h.2 with ⟨_, h0⟩ | ⟨g, cap, cur, h', _⟩
  · omega
  · simp only [Value.slice.injEq] at h'
    exact ⟨g, h'.1⟩
def putL (k s r : Int) (ks : List Int) (vs : List ByteArray) (key : Int) (val : ByteArray) : TR :=
  if 0 ≤ atI ks key then ⟨k, s, r, ks, vs.set (atI ks key).toNat val, 0⟩ else if k = 1 then ⟨k, s, r, ks, vs, 2⟩ else if r ≤ (ks.length : Int) then ⟨k, s, r, ks, vs, 3⟩ else ⟨k, s, r, ks ++ [key], vs ++ [val], 0⟩

set_option maxRecDepth 100000 in
set_option maxHeartbeats 4000000 in
theorem f50 (k s r : Int) (ks : List Int) (vs : List ByteArray) (a b : Option Addr) (c d : Nat) (key : Int) (val : ByteArray) (n₀ : Nat) (w : World) (hI : w.ownsRow n₀ 3 1 (.slice a ks.length c) ks.length (ks.map (.int .i64))) (hS : w.ownsRow n₀ 9 1 (.slice b vs.length d) vs.length (vs.map .string)) (hn : n₀ ≤ w.heap.size) (hl : ks.length = vs.length) (hk8 : ks.length ≤ 8) :
    Calls Try.prog 87 #[.agg #[.int .i64 k, .int .i64 s, .int .i64 r, .slice a ks.length c, .slice b vs.length d], .int .i64 key, .string val] w fun e w' => ∃ V, e = .returned (.tuple #[V, .int .i64 (putL k s r ks vs key val).code]) ∧ Tab n₀ w' (putL k s r ks vs key val).k (putL k s r ks vs key val).s (putL k s r ks vs key val).r (putL k s r ks vs key val).ks (putL k s r ks vs key val).vs V ∧ Below n₀ w w' := by
  obtain ⟨i0, hi, hz0, hz1, hz2⟩ := info_parts info3
  obtain ⟨j0, hj, hy0, hy1, hy2⟩ := info_parts info9
  rcases atI_cases ks key with ⟨hat, hno⟩ | ⟨i, hik, hat, hthere, hno⟩
  · clear hno
    by_cases hk : k = 1
    · have hT : putL k s r ks vs key val = ⟨k, s, r, ks, vs, 2⟩ := by unfold putL; rw [hat, if_neg (by omega), if_pos hk]
      have HT := hid hT
      have HAT := hid hat
      have hk' : (k == 1) = true := by simpa using hk
      have HL := hid hl
      clear hT hat hk hl
      have c2 : Below w.heap.size w ((w.alloc (.cells #[.int .i64 k, .int .i64 s, .int .i64 r, .slice a ks.length c, .slice b vs.length d] 89)).alloc (.cells #[.int .i64 0, .int .i64 0, .int .i64 0, .slice none 0 0, .slice none 0 0] 89)) := ((Below.refl _ w).alloc (Nat.le_refl _) _).alloc (by simp) _
      have bR : Box5 ((w.alloc (.cells #[.int .i64 k, .int .i64 s, .int .i64 r, .slice a ks.length c, .slice b vs.length d] 89)).alloc (.cells #[.int .i64 0, .int .i64 0, .int .i64 0, .slice none 0 0, .slice none 0 0] 89)) (w.heap.size + 1) 0 0 0 (.slice none 0 0) (.slice none 0 0) := by have := World.alloc_heap_new (w.alloc (.cells #[.int .i64 k, .int .i64 s, .int .i64 r, .slice a ks.length c, .slice b vs.length d] 89)) (.cells #[.int .i64 0, .int .i64 0, .int .i64 0, .slice none 0 0, .slice none 0 0] 89); simpa [Box5] using this
      have bT : Box5 ((w.alloc (.cells #[.int .i64 k, .int .i64 s, .int .i64 r, .slice a ks.length c, .slice b vs.length d] 89)).alloc (.cells #[.int .i64 0, .int .i64 0, .int .i64 0, .slice none 0 0, .slice none 0 0] 89)) w.heap.size k s r (.slice a ks.length c) (.slice b vs.length d) := by
        have := World.alloc_heap_new w (.cells #[.int .i64 k, .int .i64 s, .int .i64 r, .slice a ks.length c, .slice b vs.length d] 89)
        have h1 : Box5 (w.alloc (.cells #[.int .i64 k, .int .i64 s, .int .i64 r, .slice a ks.length c, .slice b vs.length d] 89)) w.heap.size k s r (.slice a ks.length c) (.slice b vs.length d) := this
        exact Box5.kept h1 (World.grownBy_alloc _ _ none) (by simp)
      have HBR := hid bR
      have HBT := hid bT
      have RI := World.ownsRow.alloc (World.ownsRow.alloc hI (.cells #[.int .i64 k, .int .i64 s, .int .i64 r, .slice a ks.length c, .slice b vs.length d] 89)) (.cells #[.int .i64 0, .int .i64 0, .int .i64 0, .slice none 0 0, .slice none 0 0] 89)
      have RS := World.ownsRow.alloc (World.ownsRow.alloc hS (.cells #[.int .i64 k, .int .i64 s, .int .i64 r, .slice a ks.length c, .slice b vs.length d] 89)) (.cells #[.int .i64 0, .int .i64 0, .int .i64 0, .slice none 0 0, .slice none 0 0] 89)
      have HRI := hid RI
      have HRS := hid RS
      have HC2 := hid c2
      have AI := ArgI.below (own_ints' hI) c2 (Nat.le_refl _)
      have HAI := hid AI
      clear bR bT RI RS hI hS AI c2
      go_enter Try.func87, Try.ntmps87
      go_wp2_with fail
      refine (f45 k s r ks vs a b c d key _ HAI.out (by omega)).mono ?_
      rw [HAT.out]
      rintro e w1 ⟨rfl, hb1⟩
      have bR1 := Box5.below HBR.out hb1 (by simp)
      have bT1 := Box5.below HBT.out hb1 (by simp; omega)
      have rI1 := own_below HRI.out hb1
      have rS1 := own_below HRS.out hb1
      have c1 : Below w.heap.size w w1 := HC2.out.trans (hb1.mono (by simp; omega))
      have z1 := hb1.size
      simp only [World.size_alloc] at z1
      have x1 : w.heap.size < w1.heap.size := by omega
      have x2 : w.heap.size + 1 < w1.heap.size := by omega
      obtain ⟨t0, t1, t2, t3, t4⟩ := Box5.cells bT1
      clear hb1
      have R5 := row_st5 bR1 (by decide) rI1 (k' := k) (s' := s) (r' := r) (v' := .slice a ks.length c) (u' := .slice b vs.length d)
      have T5 := row_st5 bR1 (by decide) rS1 (k' := k) (s' := s) (r' := r) (v' := .slice a ks.length c) (u' := .slice b vs.length d)
      have B5 := st5_below (w.heap.size + 1) k s r (.slice a ks.length c) (.slice b vs.length d) (c1.mono hn) (by omega)
      have P5 := Box5.cells (Box5.st5 bR1 (k' := k) (s' := s) (r' := r) (v' := .slice a ks.length c) (u' := .slice b vs.length d))
      obtain ⟨y0, y1, y2, y3, y4⟩ := Box5.cells bR1
      have fR := Box5.frozen bR1
      obtain ⟨n0, n1, n2, n3, n4⟩ := Box5.cells bT1
      have HR5 := hid R5
      have HT5 := hid T5
      have HB5 := hid B5
      have HP5 := hid P5
      clear R5 T5 B5 P5
      clear rI1 rS1
      go_wp2_with fail
      obtain ⟨p0, p1, p2, p3, p4⟩ := HP5.out
      unfold st5 at p0 p1 p2 p3 p4
      refine bodyPost_ret (v := .tuple #[.agg #[.int .i64 k, .int .i64 s, .int .i64 r, .slice a ks.length c, .slice b vs.length d], .int .i64 2]) (by simp [results, Try.results87, go_sem, p0, p1, p2, p3, p4]) rfl ?_
      rw [HT.out]
      exact ⟨_, rfl, ⟨_, _, rfl, HR5.out, HT5.out⟩, HB5.out⟩
    · by_cases hr : r ≤ (ks.length : Int)
      · have hT : putL k s r ks vs key val = ⟨k, s, r, ks, vs, 3⟩ := by unfold putL; rw [hat, if_neg (by omega), if_neg hk, if_pos hr]
        have HT := hid hT
        have HAT := hid hat
        have hk' : (k == 1) = false := by simpa using hk
        have HL := hid hl
        clear hT hat hk hl
        have c2 : Below w.heap.size w ((w.alloc (.cells #[.int .i64 k, .int .i64 s, .int .i64 r, .slice a ks.length c, .slice b vs.length d] 89)).alloc (.cells #[.int .i64 0, .int .i64 0, .int .i64 0, .slice none 0 0, .slice none 0 0] 89)) := ((Below.refl _ w).alloc (Nat.le_refl _) _).alloc (by simp) _
        have bR : Box5 ((w.alloc (.cells #[.int .i64 k, .int .i64 s, .int .i64 r, .slice a ks.length c, .slice b vs.length d] 89)).alloc (.cells #[.int .i64 0, .int .i64 0, .int .i64 0, .slice none 0 0, .slice none 0 0] 89)) (w.heap.size + 1) 0 0 0 (.slice none 0 0) (.slice none 0 0) := by have := World.alloc_heap_new (w.alloc (.cells #[.int .i64 k, .int .i64 s, .int .i64 r, .slice a ks.length c, .slice b vs.length d] 89)) (.cells #[.int .i64 0, .int .i64 0, .int .i64 0, .slice none 0 0, .slice none 0 0] 89); simpa [Box5] using this
        have bT : Box5 ((w.alloc (.cells #[.int .i64 k, .int .i64 s, .int .i64 r, .slice a ks.length c, .slice b vs.length d] 89)).alloc (.cells #[.int .i64 0, .int .i64 0, .int .i64 0, .slice none 0 0, .slice none 0 0] 89)) w.heap.size k s r (.slice a ks.length c) (.slice b vs.length d) := by
          have := World.alloc_heap_new w (.cells #[.int .i64 k, .int .i64 s, .int .i64 r, .slice a ks.length c, .slice b vs.length d] 89)
          have h1 : Box5 (w.alloc (.cells #[.int .i64 k, .int .i64 s, .int .i64 r, .slice a ks.length c, .slice b vs.length d] 89)) w.heap.size k s r (.slice a ks.length c) (.slice b vs.length d) := this
          exact Box5.kept h1 (World.grownBy_alloc _ _ none) (by simp)
        have HBR := hid bR
        have HBT := hid bT
        have RI := World.ownsRow.alloc (World.ownsRow.alloc hI (.cells #[.int .i64 k, .int .i64 s, .int .i64 r, .slice a ks.length c, .slice b vs.length d] 89)) (.cells #[.int .i64 0, .int .i64 0, .int .i64 0, .slice none 0 0, .slice none 0 0] 89)
        have RS := World.ownsRow.alloc (World.ownsRow.alloc hS (.cells #[.int .i64 k, .int .i64 s, .int .i64 r, .slice a ks.length c, .slice b vs.length d] 89)) (.cells #[.int .i64 0, .int .i64 0, .int .i64 0, .slice none 0 0, .slice none 0 0] 89)
        have HRI := hid RI
        have HRS := hid RS
        have HC2 := hid c2
        have AI := ArgI.below (own_ints' hI) c2 (Nat.le_refl _)
        have HAI := hid AI
        clear bR bT RI RS hI hS AI c2
        go_enter Try.func87, Try.ntmps87
        go_wp2_with fail
        refine (f45 k s r ks vs a b c d key _ HAI.out (by omega)).mono ?_
        rw [HAT.out]
        rintro e w1 ⟨rfl, hb1⟩
        have bR1 := Box5.below HBR.out hb1 (by simp)
        have bT1 := Box5.below HBT.out hb1 (by simp; omega)
        have rI1 := own_below HRI.out hb1
        have rS1 := own_below HRS.out hb1
        have c1 : Below w.heap.size w w1 := HC2.out.trans (hb1.mono (by simp; omega))
        have z1 := hb1.size
        simp only [World.size_alloc] at z1
        have x1 : w.heap.size < w1.heap.size := by omega
        have x2 : w.heap.size + 1 < w1.heap.size := by omega
        obtain ⟨t0, t1, t2, t3, t4⟩ := Box5.cells bT1
        clear hb1
        have R5 := row_st5 bR1 (by decide) rI1 (k' := k) (s' := s) (r' := r) (v' := .slice a ks.length c) (u' := .slice b vs.length d)
        have T5 := row_st5 bR1 (by decide) rS1 (k' := k) (s' := s) (r' := r) (v' := .slice a ks.length c) (u' := .slice b vs.length d)
        have B5 := st5_below (w.heap.size + 1) k s r (.slice a ks.length c) (.slice b vs.length d) (c1.mono hn) (by omega)
        have P5 := Box5.cells (Box5.st5 bR1 (k' := k) (s' := s) (r' := r) (v' := .slice a ks.length c) (u' := .slice b vs.length d))
        obtain ⟨y0, y1, y2, y3, y4⟩ := Box5.cells bR1
        have fR := Box5.frozen bR1
        obtain ⟨n0, n1, n2, n3, n4⟩ := Box5.cells bT1
        have HR5 := hid R5
        have HT5 := hid T5
        have HB5 := hid B5
        have HP5 := hid P5
        clear R5 T5 B5 P5
        clear rI1 rS1
        go_wp2_with fail
        obtain ⟨p0, p1, p2, p3, p4⟩ := HP5.out
        unfold st5 at p0 p1 p2 p3 p4
        refine bodyPost_ret (v := .tuple #[.agg #[.int .i64 k, .int .i64 s, .int .i64 r, .slice a ks.length c, .slice b vs.length d], .int .i64 3]) (by simp [results, Try.results87, go_sem, p0, p1, p2, p3, p4]) rfl ?_
        rw [HT.out]
        exact ⟨_, rfl, ⟨_, _, rfl, HR5.out, HT5.out⟩, HB5.out⟩
      · have hT : putL k s r ks vs key val = ⟨k, s, r, ks ++ [key], vs ++ [val], 0⟩ := by unfold putL; rw [hat, if_neg (by omega), if_neg hk, if_neg hr]
        have HT := hid hT
        have HAT := hid hat
        have hk' : (k == 1) = false := by simpa using hk
        have hr' : (ks.length : Int) < r := by omega
        have hv8 : vs.length ≤ 8 := by omega
        have HL := hid hl
        clear hT hat hk hr hl
        have c2 : Below w.heap.size w ((w.alloc (.cells #[.int .i64 k, .int .i64 s, .int .i64 r, .slice a ks.length c, .slice b vs.length d] 89)).alloc (.cells #[.int .i64 0, .int .i64 0, .int .i64 0, .slice none 0 0, .slice none 0 0] 89)) := ((Below.refl _ w).alloc (Nat.le_refl _) _).alloc (by simp) _
        have bR : Box5 ((w.alloc (.cells #[.int .i64 k, .int .i64 s, .int .i64 r, .slice a ks.length c, .slice b vs.length d] 89)).alloc (.cells #[.int .i64 0, .int .i64 0, .int .i64 0, .slice none 0 0, .slice none 0 0] 89)) (w.heap.size + 1) 0 0 0 (.slice none 0 0) (.slice none 0 0) := by have := World.alloc_heap_new (w.alloc (.cells #[.int .i64 k, .int .i64 s, .int .i64 r, .slice a ks.length c, .slice b vs.length d] 89)) (.cells #[.int .i64 0, .int .i64 0, .int .i64 0, .slice none 0 0, .slice none 0 0] 89); simpa [Box5] using this
        have bT : Box5 ((w.alloc (.cells #[.int .i64 k, .int .i64 s, .int .i64 r, .slice a ks.length c, .slice b vs.length d] 89)).alloc (.cells #[.int .i64 0, .int .i64 0, .int .i64 0, .slice none 0 0, .slice none 0 0] 89)) w.heap.size k s r (.slice a ks.length c) (.slice b vs.length d) := by
          have := World.alloc_heap_new w (.cells #[.int .i64 k, .int .i64 s, .int .i64 r, .slice a ks.length c, .slice b vs.length d] 89)
          have h1 : Box5 (w.alloc (.cells #[.int .i64 k, .int .i64 s, .int .i64 r, .slice a ks.length c, .slice b vs.length d] 89)) w.heap.size k s r (.slice a ks.length c) (.slice b vs.length d) := this
          exact Box5.kept h1 (World.grownBy_alloc _ _ none) (by simp)
        have HBR := hid bR
        have HBT := hid bT
        have RI := World.ownsRow.alloc (World.ownsRow.alloc hI (.cells #[.int .i64 k, .int .i64 s, .int .i64 r, .slice a ks.length c, .slice b vs.length d] 89)) (.cells #[.int .i64 0, .int .i64 0, .int .i64 0, .slice none 0 0, .slice none 0 0] 89)
        have RS := World.ownsRow.alloc (World.ownsRow.alloc hS (.cells #[.int .i64 k, .int .i64 s, .int .i64 r, .slice a ks.length c, .slice b vs.length d] 89)) (.cells #[.int .i64 0, .int .i64 0, .int .i64 0, .slice none 0 0, .slice none 0 0] 89)
        have HRI := hid RI
        have HRS := hid RS
        have HC2 := hid c2
        have AI := ArgI.below (own_ints' hI) c2 (Nat.le_refl _)
        have HAI := hid AI
        clear bR bT RI RS hI hS AI c2
        go_enter Try.func87, Try.ntmps87
        go_wp2_with fail
        refine (f45 k s r ks vs a b c d key _ HAI.out (by omega)).mono ?_
        rw [HAT.out]
        rintro e w1 ⟨rfl, hb1⟩
        have bR1 := Box5.below HBR.out hb1 (by simp)
        have bT1 := Box5.below HBT.out hb1 (by simp; omega)
        have rI1 := own_below HRI.out hb1
        have rS1 := own_below HRS.out hb1
        have c1 : Below w.heap.size w w1 := HC2.out.trans (hb1.mono (by simp; omega))
        have z1 := hb1.size
        simp only [World.size_alloc] at z1
        have x1 : w.heap.size < w1.heap.size := by omega
        have x2 : w.heap.size + 1 < w1.heap.size := by omega
        obtain ⟨t0, t1, t2, t3, t4⟩ := Box5.cells bT1
        clear hb1
        have HI1 := hid rI1
        have HS1 := hid rS1
        have HT1 := hid bT1
        have HR1 := hid bR1
        clear rI1 rS1
        have hle : n₀ ≤ w1.heap.size := by omega
        go_wp2_with (first
          | (at_builtin; go_must (refine wpList_append_own _ rfl _ _ 42 rfl n₀ 3 i0 (.int .i64 0) 1 8 Try.underlying42 hi hz0 hz1 hz2 rfl (by decide) _ _ _ rfl (World.ownsRow.alloc HI1.out _) ⟨w1.heap.size, 0, none⟩ 1 1 [.int .i64 key] rfl rfl (one_newE _ _ _ _ rfl) (by simp [Value.oneCell']) (by unfold maxLen; omega) (by omega) (by simp; omega) ?_)))
        intro v2 w2 hown2 hgrow2 _
        obtain ⟨ga, ca, rfl⟩ := ownsRow_succ hown2
        obtain ⟨bT2, bT3, rI3, rS3, _, l3⟩ := Box5.app3 HT1.out HI1.out HS1.out hle (by omega) hown2 hgrow2
        have bR3 := Box5.kept (Box5.kept (Box5.kept HR1.out (World.grownBy_alloc _ _ none) (by simp)) hgrow2 (Box5.not_row HR1.out (by decide) HI1.out)) (grownBy_setCell5 w2 (w.heap.size) 3 (.slice (some ⟨ga, 0, none⟩) (ks.length + 1) ca)) (by simp)
        obtain ⟨m0, m1, m2, m3, m4⟩ := Box5.cells bT2
        have fm := Box5.frozen bT2
        have z3 := l3.size
        simp only [World.size_setCell] at z3
        have HI3 := hid rI3
        have HS3 := hid rS3
        have HT3 := hid bT3
        have HR3 := hid bR3
        have hx2 : w.heap.size < w2.heap.size := by omega
        clear rI3 rS3 hown2 hgrow2
        go_wp2_with (first
          | (at_builtin; go_must (refine wpList_append_own _ rfl _ _ 84 rfl n₀ 9 j0 (.string ⟨#[]⟩) 1 16 Try.underlying84 hj hy0 hy1 hy2 rfl (by decide) _ _ _ rfl (World.ownsRow.alloc HS3.out _) ⟨w2.heap.size, 0, none⟩ 1 1 [.string val] rfl rfl (one_newE _ _ _ _ (by simp)) (by simp [Value.oneCell']) (by unfold maxLen; omega) (by omega) (by simp; omega) ?_)))
        intro v4 w4 hown4 hgrow4 _
        obtain ⟨gb, cb, rfl⟩ := ownsRow_succ hown4
        obtain ⟨bT4, bT5, rS5, rI5, _, l5⟩ := Box5.app4 HT3.out HS3.out HI3.out (by simp; omega) (by omega) hown4 hgrow4
        have bR5 := Box5.kept (Box5.kept (Box5.kept HR3.out (World.grownBy_alloc _ _ none) (by simp)) hgrow4 (Box5.not_row HR3.out (by decide) HS3.out)) (grownBy_setCell5 w4 (w.heap.size) 4 (.slice (some ⟨gb, 0, none⟩) (vs.length + 1) cb)) (by simp)
        have bR4 := Box5.kept (Box5.kept HR3.out (World.grownBy_alloc _ _ none) (by simp)) hgrow4 (Box5.not_row HR3.out (by decide) HS3.out)
        obtain ⟨k0, k1, k2, k3, k4⟩ := Box5.cells bT4
        obtain ⟨j0', j1', j2', j3', j4'⟩ := Box5.cells bR4
        have fR4 := Box5.frozen bR4
        have fk := Box5.frozen bT4
        have c5 : Below n₀ w (w4.setCell ⟨w.heap.size, 4, none⟩ (.slice (some ⟨gb, 0, none⟩) (vs.length + 1) cb)) := ((c1.mono hn).trans l3).trans l5
        have R5 := row_st5 bR5 (by decide) rI5 (k' := k) (s' := s) (r' := r) (v' := .slice (some ⟨ga, 0, none⟩) (ks.length + 1) ca) (u' := .slice (some ⟨gb, 0, none⟩) (vs.length + 1) cb)
        have T5 := row_st5 bR5 (by decide) rS5 (k' := k) (s' := s) (r' := r) (v' := .slice (some ⟨ga, 0, none⟩) (ks.length + 1) ca) (u' := .slice (some ⟨gb, 0, none⟩) (vs.length + 1) cb)
        have B5 := st5_below (w.heap.size + 1) k s r (.slice (some ⟨ga, 0, none⟩) (ks.length + 1) ca) (.slice (some ⟨gb, 0, none⟩) (vs.length + 1) cb) c5 (by omega)
        have P5 := Box5.cells (Box5.st5 bR5 (k' := k) (s' := s) (r' := r) (v' := .slice (some ⟨ga, 0, none⟩) (ks.length + 1) ca) (u' := .slice (some ⟨gb, 0, none⟩) (vs.length + 1) cb))
        obtain ⟨y0, y1, y2, y3, y4⟩ := Box5.cells bR5
        have fR := Box5.frozen bR5
        obtain ⟨n0, n1, n2, n3, n4⟩ := Box5.cells bT5
        have HR5 := hid R5
        have HT5 := hid T5
        have HB5 := hid B5
        have HP5 := hid P5
        clear R5 T5 B5 P5
        clear rI5 rS5 hown4 hgrow4
        go_wp2_with fail
        obtain ⟨p0, p1, p2, p3, p4⟩ := HP5.out
        unfold st5 at p0 p1 p2 p3 p4
        refine bodyPost_ret (v := .tuple #[.agg #[.int .i64 k, .int .i64 s, .int .i64 r, .slice (some ⟨ga, 0, none⟩) (ks.length + 1) ca, .slice (some ⟨gb, 0, none⟩) (vs.length + 1) cb], .int .i64 0]) (by simp [results, Try.results87, go_sem, p0, p1, p2, p3, p4]) rfl ?_
        rw [HT.out]
        exact ⟨_, rfl, ⟨_, _, rfl, by simpa [st5] using HR5.out, by simpa [st5] using HT5.out⟩, HB5.out⟩
  · have hT : putL k s r ks vs key val = ⟨k, s, r, ks, vs.set i val, 0⟩ := by unfold putL; rw [hat, if_pos (by omega)]; simp
    have HT := hid hT
    have HAT := hid hat
    have hiv : i < vs.length := by omega
    have hiv' : (i : Int) < (vs.length : Int) := by omega
    obtain ⟨g, rfl⟩ := own_pos hS (by omega)
    have HL := hid hl
    clear hT hat hno hthere hl
    have c2 : Below w.heap.size w ((w.alloc (.cells #[.int .i64 k, .int .i64 s, .int .i64 r, .slice a ks.length c, .slice (some ⟨g, 0, none⟩) vs.length d] 89)).alloc (.cells #[.int .i64 0, .int .i64 0, .int .i64 0, .slice none 0 0, .slice none 0 0] 89)) := ((Below.refl _ w).alloc (Nat.le_refl _) _).alloc (by simp) _
    have bR : Box5 ((w.alloc (.cells #[.int .i64 k, .int .i64 s, .int .i64 r, .slice a ks.length c, .slice (some ⟨g, 0, none⟩) vs.length d] 89)).alloc (.cells #[.int .i64 0, .int .i64 0, .int .i64 0, .slice none 0 0, .slice none 0 0] 89)) (w.heap.size + 1) 0 0 0 (.slice none 0 0) (.slice none 0 0) := by have := World.alloc_heap_new (w.alloc (.cells #[.int .i64 k, .int .i64 s, .int .i64 r, .slice a ks.length c, .slice (some ⟨g, 0, none⟩) vs.length d] 89)) (.cells #[.int .i64 0, .int .i64 0, .int .i64 0, .slice none 0 0, .slice none 0 0] 89); simpa [Box5] using this
    have bT : Box5 ((w.alloc (.cells #[.int .i64 k, .int .i64 s, .int .i64 r, .slice a ks.length c, .slice (some ⟨g, 0, none⟩) vs.length d] 89)).alloc (.cells #[.int .i64 0, .int .i64 0, .int .i64 0, .slice none 0 0, .slice none 0 0] 89)) w.heap.size k s r (.slice a ks.length c) (.slice (some ⟨g, 0, none⟩) vs.length d) := by
      have := World.alloc_heap_new w (.cells #[.int .i64 k, .int .i64 s, .int .i64 r, .slice a ks.length c, .slice (some ⟨g, 0, none⟩) vs.length d] 89)
      have h1 : Box5 (w.alloc (.cells #[.int .i64 k, .int .i64 s, .int .i64 r, .slice a ks.length c, .slice (some ⟨g, 0, none⟩) vs.length d] 89)) w.heap.size k s r (.slice a ks.length c) (.slice (some ⟨g, 0, none⟩) vs.length d) := this
      exact Box5.kept h1 (World.grownBy_alloc _ _ none) (by simp)
    have HBR := hid bR
    have HBT := hid bT
    have RI := World.ownsRow.alloc (World.ownsRow.alloc hI (.cells #[.int .i64 k, .int .i64 s, .int .i64 r, .slice a ks.length c, .slice (some ⟨g, 0, none⟩) vs.length d] 89)) (.cells #[.int .i64 0, .int .i64 0, .int .i64 0, .slice none 0 0, .slice none 0 0] 89)
    have RS := World.ownsRow.alloc (World.ownsRow.alloc hS (.cells #[.int .i64 k, .int .i64 s, .int .i64 r, .slice a ks.length c, .slice (some ⟨g, 0, none⟩) vs.length d] 89)) (.cells #[.int .i64 0, .int .i64 0, .int .i64 0, .slice none 0 0, .slice none 0 0] 89)
    have HRI := hid RI
    have HRS := hid RS
    have HC2 := hid c2
    have AI := ArgI.below (own_ints' hI) c2 (Nat.le_refl _)
    have HAI := hid AI
    clear bR bT RI RS hI hS AI c2
    go_enter Try.func87, Try.ntmps87
    go_wp2_with fail
    refine (f45 k s r ks vs a (some ⟨g, 0, none⟩) c d key _ HAI.out (by omega)).mono ?_
    rw [HAT.out]
    rintro e w1 ⟨rfl, hb1⟩
    have bR1 := Box5.below HBR.out hb1 (by simp)
    have bT1 := Box5.below HBT.out hb1 (by simp; omega)
    have rI1 := own_below HRI.out hb1
    have rS1 := own_below HRS.out hb1
    have c1 : Below w.heap.size w w1 := HC2.out.trans (hb1.mono (by simp; omega))
    have z1 := hb1.size
    simp only [World.size_alloc] at z1
    have x1 : w.heap.size < w1.heap.size := by omega
    have x2 : w.heap.size + 1 < w1.heap.size := by omega
    obtain ⟨t0, t1, t2, t3, t4⟩ := Box5.cells bT1
    clear hb1
    have gI := rows_apart rS1 rI1 (by decide)
    have gne : g ≠ w.heap.size := fun e => Box5.not_row bT1 (by decide) rS1 (by rw [e]; rfl)
    have gne1 : g ≠ w.heap.size + 1 := fun e => Box5.not_row bR1 (by decide) rS1 (by rw [e]; rfl)
    have cg : w1.cell? ⟨g, i, none⟩ = some (.string vs[i]) := by rw [rS1.cellAt i (by omega)]; simp [List.getElem?_eq_getElem hiv]
    have fg : w1.frozen? ⟨g, i, none⟩ = false := rS1.frozenAt i
    have bR2 := Box5.kept bR1 (grownBy_setCell5 w1 g i (.string val)) (by simp; omega)
    have bT2 := Box5.kept bT1 (grownBy_setCell5 w1 g i (.string val)) (by simp; omega)
    have rI2 := ownsRow_setCell_other rI1 (a := ⟨g, i, none⟩) (apart_ne gI) (.string val)
    have rS2 := own_set rS1 (by omega) (.string val)
    have gl : n₀ ≤ g := own_base rS1 g rfl
    have c2' : Below n₀ w (w1.setCell ⟨g, i, none⟩ (.string val)) := (c1.mono hn).setCell gl _
    have R5 := row_st5 bR2 (by decide) rI2 (k' := k) (s' := s) (r' := r) (v' := .slice a ks.length c) (u' := .slice (some ⟨g, 0, none⟩) vs.length d)
    have T5 := row_st5 bR2 (by decide) rS2 (k' := k) (s' := s) (r' := r) (v' := .slice a ks.length c) (u' := .slice (some ⟨g, 0, none⟩) vs.length d)
    have B5 := st5_below (w.heap.size + 1) k s r (.slice a ks.length c) (.slice (some ⟨g, 0, none⟩) vs.length d) c2' (by omega)
    have P5 := Box5.cells (Box5.st5 bR2 (k' := k) (s' := s) (r' := r) (v' := .slice a ks.length c) (u' := .slice (some ⟨g, 0, none⟩) vs.length d))
    obtain ⟨y0, y1, y2, y3, y4⟩ := Box5.cells bR2
    have fR := Box5.frozen bR2
    obtain ⟨n0, n1, n2, n3, n4⟩ := Box5.cells bT2
    have HR5 := hid R5
    have HT5 := hid T5
    have HB5 := hid B5
    have HP5 := hid P5
    clear R5 T5 B5 P5
    clear rI1 rS1 rI2 rS2 gI
    go_wp2_with fail
    obtain ⟨p0, p1, p2, p3, p4⟩ := HP5.out
    unfold st5 at p0 p1 p2 p3 p4
    refine bodyPost_ret (v := .tuple #[.agg #[.int .i64 k, .int .i64 s, .int .i64 r, .slice a ks.length c, .slice (some ⟨g, 0, none⟩) vs.length d], .int .i64 0]) (by simp [results, Try.results87, go_sem, p0, p1, p2, p3, p4]) rfl ?_
    rw [HT.out]
    exact ⟨_, rfl, ⟨_, _, rfl, HR5.out, by have := HT5.out; rw [← List.map_set] at this; simpa [st5] using this⟩, HB5.out⟩

end Go.Proofs.Ytkaekiodjjhjkaa.G
