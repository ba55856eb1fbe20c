/- Tables as answers; the code of a put. -/
import Derived.Test.YtkaekiodjjhjkaaJGrp14
import Derived.Test.YtkaekiodjjhjkaaJGrp15
import Derived.Test.YtkaekiodjjhjkaaJGrp0
import Derived.OneCell
set_option maxRecDepth 100000
set_option maxHeartbeats 4000000
set_option linter.unusedSimpArgs false
set_option linter.unusedVariables false
namespace Go.Proofs.Ytkaekiodjjhjkaa.G
open Go.RowKit
def Tab (n₀ : Nat) (w : World) (k s r : Int) (ks : List Int) (vs : List ByteArray) (V : Value) : Prop :=
 ∃ v u, V = .agg #[.int .i64 k, .int .i64 s, .int .i64 r, v, u] ∧ w.ownsRow n₀ 3 1 v ks.length (ks.map (.int .i64)) ∧ w.ownsRow n₀ 9 1 u vs.length (vs.map .string)
theorem Tab.nil (n₀ : Nat) (w : World) (k s r : Int) : Tab n₀ w k s r [] [] (.agg #[.int .i64 k, .int .i64 s, .int .i64 r, .slice none 0 0, .slice none 0 0]) := ⟨_, _, rfl, World.ownsRow_nil _ _ _ _, World.ownsRow_nil _ _ _ _⟩
theorem Tab.below {n₀ : Nat} {w w' : World} {k s r : Int} {ks : List Int} {vs : List ByteArray} {V : Value} (h : Tab n₀ w k s r ks vs V) (hb : Below w.heap.size w w') : Tab n₀ w' k s r ks vs V := by
 obtain ⟨v, u, rfl, h1, h2⟩ := h
 exact ⟨v, u, rfl, own_below h1 hb, own_below h2 hb⟩
theorem Tab.mono {n₀ n₁ : Nat} {w : World} {k s r : Int} {ks : List Int} {vs : List ByteArray} {V : Value} (h : Tab n₀ w k s r ks vs V) (hb : n₁ ≤ n₀) : Tab n₁ w k s r ks vs V := by
 obtain ⟨v, u, rfl, h1, h2⟩ := h
 exact ⟨v, u, rfl, own_mono h1 hb, own_mono h2 hb⟩
theorem own_ints {w : World} {n₀ : Nat} {v : Value} {xs : List Int} (h : w.ownsRow n₀ 3 1 v xs.length (xs.map (.int .i64))) : ∃ a c, v = .slice a xs.length c ∧ ArgI w a xs ∧ Wr w a xs.length ∧ (∀ q, isBlk a q → n₀ ≤ q ∧ q < w.heap.size ∧ v.ownBlock = some q) ∧ xs.length ≤ c := by
 have h' := h
 rcases h.2 with ⟨rfl, hn⟩ | ⟨g, cap, cur, rfl, hb, hg, hc, _⟩
 ·rw [hn]; exact ⟨none, 0, rfl, .inl (List.length_eq_zero_iff.1 hn), .inl rfl, fun q ⟨o, e⟩ => (by cases e), Nat.le_refl _⟩
 ·have hlt := (Array.getElem?_eq_some_iff.1 hg).1
  refine ⟨_, cap, rfl, .inr ⟨g, 0, rfl, hlt, fun k hk => ?_⟩, .inr ⟨g, rfl, hlt, room_own h'⟩, fun q ⟨o, e⟩ => ?_, hc⟩
  ·rw [Nat.zero_add, h'.cellAt k (by omega)]; simp [List.getElem?_eq_getElem hk]
  ·simp only [Option.some.injEq, Addr.mk.injEq, and_true] at e
   obtain ⟨rfl, rfl⟩ := e
   exact ⟨hb, hlt, rfl⟩
theorem own_strs {w : World} {n₀ : Nat} {v : Value} {xs : List ByteArray} (h : w.ownsRow n₀ 9 1 v xs.length (xs.map .string)) : ∃ a c, v = .slice a xs.length c ∧ ArgS w a xs ∧ Wr w a xs.length ∧ (∀ q, isBlk a q → n₀ ≤ q ∧ q < w.heap.size ∧ v.ownBlock = some q) := by
 have h' := h
 rcases h.2 with ⟨rfl, hn⟩ | ⟨g, cap, cur, rfl, hb, hg, _⟩
 ·rw [hn]; exact ⟨none, 0, rfl, .inl (List.length_eq_zero_iff.1 hn), .inl rfl, fun q ⟨o, e⟩ => by cases e⟩
 ·have hlt := (Array.getElem?_eq_some_iff.1 hg).1
  refine ⟨_, cap, rfl, .inr ⟨g, 0, rfl, hlt, fun k hk => ?_⟩, .inr ⟨g, rfl, hlt, room_own h'⟩, fun q ⟨o, e⟩ => ?_⟩
  ·rw [Nat.zero_add, h'.cellAt k (by omega)]; simp [List.getElem?_eq_getElem hk]
  ·simp only [Option.some.injEq, Addr.mk.injEq, and_true] at e
   obtain ⟨rfl, rfl⟩ := e
   exact ⟨hb, hlt, rfl⟩
structure TabP (n₀ : Nat) (w : World) (ks : List Int) (vs : List ByteArray) (a b : Option Addr) : Prop where
 ints : ArgI w a ks
 strs : ArgS w b vs
 wi : Wr w a ks.length
 ws : Wr w b vs.length
 bi : ∀ q, isBlk a q → n₀ ≤ q ∧ q < w.heap.size
 bs : ∀ q, isBlk b q → n₀ ≤ q ∧ q < w.heap.size
 ap : ∀ q, isBlk a q → ¬ isBlk b q
theorem Tab.parts {n₀ : Nat} {w : World} {k s r : Int} {ks : List Int} {vs : List ByteArray} {V : Value} (h : Tab n₀ w k s r ks vs V) : ∃ a b c d, V = .agg #[.int .i64 k, .int .i64 s, .int .i64 r, .slice a ks.length c, .slice b vs.length d] ∧ TabP n₀ w ks vs a b := by
 obtain ⟨v, u, rfl, h1, h2⟩ := h
 have hap := rows_apart h1 h2 (by decide)
 obtain ⟨a, c, rfl, i1, i2, i3, _⟩ := own_ints h1
 obtain ⟨b, d, rfl, s1, s2, s3⟩ := own_strs h2
 refine ⟨a, b, c, d, rfl, i1, s1, i2, s2, fun q h => ⟨(i3 q h).1, (i3 q h).2.1⟩, fun q h => ⟨(s3 q h).1, (s3 q h).2.1⟩, fun q h1 h2 => ?_⟩
 have e1 := (i3 q h1).2.2
 have e2 := (s3 q h2).2.2
 rcases hap with h | h
 ·rw [e1] at h; cases h
 ·exact h (e1.trans e2.symm)
structure TR where
 k : Int
 s : Int
 r : Int
 ks : List Int
 vs : List ByteArray
 code : Int
open Classical in
noncomputable def codeI (k s r : Int) (ks : List Int) (key : Int) (val : ByteArray) : Int :=
 if inB key 0 4294967295 = false ∨ (val.size : Int) ≠ s then 1 else if key ∈ ks then 0 else if k = 1 then 2 else if (ks.length : Int) = r then 3 else 0
noncomputable def putT (k s r : Int) (ks : List Int) (vs : List ByteArray) (key : Int) (val : ByteArray) : TR :=
 if okB k s r ks vs = true then
  (if codeI k s r ks key val = 0 then ⟨k, s, r, (putP (ks.zip vs) key val).map Prod.fst, (putP (ks.zip vs) key val).map Prod.snd, 0⟩ else ⟨k, s, r, ks, vs, codeI k s r ks key val⟩)
 else ⟨0, 0, 0, [], [], 1⟩
end Go.Proofs.Ytkaekiodjjhjkaa.G
namespace Go.Proofs.Ytkaekiodjjhjkaa.G
open Go.RowKit
theorem Box5.below {w w' : World} {B n : Nat} {k s r : Int} {v u : Value} (h : Box5 w B k s r v u) (hb : Below n w w') (hB : B < n) : Box5 w' B k s r v u := (hb.block B hB).trans h
theorem putP_length (ps : List Pr) (key : Int) (val : ByteArray) : (putP ps key val).length ≤ ps.length + 1 := by
 unfold putP
 split <;> simp [putO]
end Go.Proofs.Ytkaekiodjjhjkaa.G
namespace Go.Proofs.Ytkaekiodjjhjkaa.G
open Go.RowKit
theorem int_news {w : World} {g : Nat} {xs : List Int} (h : IntRow w g 0 xs) : ∀ j u, (xs.map (Value.int .i64))[j]? = some u → w.cell? ((⟨g, 0, none⟩ : Addr).add j) = some u := by
 intro j u hj
 rw [List.getElem?_map] at hj
 obtain ⟨x, hx, rfl⟩ := Option.map_eq_some_iff.1 hj
 obtain ⟨hlt, rfl⟩ := List.getElem?_eq_some_iff.1 hx
 rw [Addr.add_lit]
 exact h j hlt
theorem str_news {w : World} {g : Nat} {xs : List ByteArray} (h : StrRow w g 0 xs) : ∀ j u, (xs.map Value.string)[j]? = some u → w.cell? ((⟨g, 0, none⟩ : Addr).add j) = some u := by
 intro j u hj
 rw [List.getElem?_map] at hj
 obtain ⟨x, hx, rfl⟩ := Option.map_eq_some_iff.1 hj
 obtain ⟨hlt, rfl⟩ := List.getElem?_eq_some_iff.1 hx
 rw [Addr.add_lit]
 exact h j hlt
theorem int_one (xs : List Int) : ∀ u ∈ xs.map (Value.int .i64), u.oneCell' = true := by
 intro u hu
 obtain ⟨x, _, rfl⟩ := List.mem_map.1 hu
 rfl
theorem str_one (xs : List ByteArray) : ∀ u ∈ xs.map Value.string, u.oneCell' = true := by
 intro u hu
 obtain ⟨x, _, rfl⟩ := List.mem_map.1 hu
 rfl
theorem made0 (w : World) (base B : Nat) (e : TypeId) (hB : B = w.heap.size) (hb : base ≤ w.heap.size) : (w.alloc (.cells #[] e)).ownsRow base e 1 (.slice (some ⟨B, 0, none⟩) 0 0) 0 [] := by
 subst hB
 exact World.ownsRow_made w #[] 0 hb (by unfold maxLen; omega) rfl
theorem f49 (k s r : Int) (ks : List Int) (vs : List ByteArray) (g1 g2 c d : Nat) (w : World) (hA : IntRow w g1 0 ks) (hB : StrRow w g2 0 vs) (l1 : g1 < w.heap.size) (l2 : g2 < w.heap.size) (hn : ks.length ≤ 1048576) (hm : vs.length ≤ 1048576) :
 Calls Try.prog 86 #[.agg #[.int .i64 k, .int .i64 s, .int .i64 r, .slice (some ⟨g1, 0, none⟩) ks.length c, .slice (some ⟨g2, 0, none⟩) vs.length d]] w fun e w' => ∃ V, e = .returned V ∧ Tab w.heap.size w' k s r ks vs V ∧ Below w.heap.size w w' := by
 obtain ⟨i0, hi, hz0, hz1, hz2⟩ := info_parts info3
 obtain ⟨j0, hj, hy0, hy1, hy2⟩ := info_parts info9
 have HA : Hid (IntRow w g1 0 ks) := hA
 have HB : Hid (StrRow w g2 0 vs) := hB
 clear hA hB
 have c3 : Below w.heap.size w (((w.alloc (.cells #[.int .i64 k, .int .i64 s, .int .i64 r, .slice (some ⟨g1, 0, none⟩) ks.length c, .slice (some ⟨g2, 0, none⟩) vs.length d] 89)).alloc (.cells #[.int .i64 0, .int .i64 0, .int .i64 0, .slice none 0 0, .slice none 0 0] 89)).alloc (.cells #[.int .i64 k, .int .i64 s, .int .i64 r, .slice (some ⟨g1, 0, none⟩) ks.length c, .slice (some ⟨g2, 0, none⟩) vs.length d] 89)) := (((Below.refl _ w).alloc (Nat.le_refl _) _).alloc (by simp) _).alloc (by simp; omega) _
 have bR : Box5 (((w.alloc (.cells #[.int .i64 k, .int .i64 s, .int .i64 r, .slice (some ⟨g1, 0, none⟩) ks.length c, .slice (some ⟨g2, 0, none⟩) vs.length d] 89)).alloc (.cells #[.int .i64 0, .int .i64 0, .int .i64 0, .slice none 0 0, .slice none 0 0] 89)).alloc (.cells #[.int .i64 k, .int .i64 s, .int .i64 r, .slice (some ⟨g1, 0, none⟩) ks.length c, .slice (some ⟨g2, 0, none⟩) vs.length d] 89)) (w.heap.size + 1) 0 0 0 (.slice none 0 0) (.slice none 0 0) := by
  have := World.alloc_heap_new (w.alloc (.cells #[.int .i64 k, .int .i64 s, .int .i64 r, .slice (some ⟨g1, 0, none⟩) ks.length c, .slice (some ⟨g2, 0, none⟩) vs.length d] 89)) (.cells #[.int .i64 0, .int .i64 0, .int .i64 0, .slice none 0 0, .slice none 0 0] 89)
  have h1 : Box5 ((w.alloc (.cells #[.int .i64 k, .int .i64 s, .int .i64 r, .slice (some ⟨g1, 0, none⟩) ks.length c, .slice (some ⟨g2, 0, none⟩) vs.length d] 89)).alloc (.cells #[.int .i64 0, .int .i64 0, .int .i64 0, .slice none 0 0, .slice none 0 0] 89)) (w.heap.size + 1) 0 0 0 (.slice none 0 0) (.slice none 0 0) := by simpa [Box5] using this
  exact Box5.kept h1 (World.grownBy_alloc _ _ none) (by simp)
 have bO : Box5 (((w.alloc (.cells #[.int .i64 k, .int .i64 s, .int .i64 r, .slice (some ⟨g1, 0, none⟩) ks.length c, .slice (some ⟨g2, 0, none⟩) vs.length d] 89)).alloc (.cells #[.int .i64 0, .int .i64 0, .int .i64 0, .slice none 0 0, .slice none 0 0] 89)).alloc (.cells #[.int .i64 k, .int .i64 s, .int .i64 r, .slice (some ⟨g1, 0, none⟩) ks.length c, .slice (some ⟨g2, 0, none⟩) vs.length d] 89)) (w.heap.size + 1 + 1) k s r (.slice (some ⟨g1, 0, none⟩) ks.length c) (.slice (some ⟨g2, 0, none⟩) vs.length d) := by have := World.alloc_heap_new ((w.alloc (.cells #[.int .i64 k, .int .i64 s, .int .i64 r, .slice (some ⟨g1, 0, none⟩) ks.length c, .slice (some ⟨g2, 0, none⟩) vs.length d] 89)).alloc (.cells #[.int .i64 0, .int .i64 0, .int .i64 0, .slice none 0 0, .slice none 0 0] 89)) (.cells #[.int .i64 k, .int .i64 s, .int .i64 r, .slice (some ⟨g1, 0, none⟩) ks.length c, .slice (some ⟨g2, 0, none⟩) vs.length d] 89); simpa [Box5] using this
 have bT : Box5 (((w.alloc (.cells #[.int .i64 k, .int .i64 s, .int .i64 r, .slice (some ⟨g1, 0, none⟩) ks.length c, .slice (some ⟨g2, 0, none⟩) vs.length d] 89)).alloc (.cells #[.int .i64 0, .int .i64 0, .int .i64 0, .slice none 0 0, .slice none 0 0] 89)).alloc (.cells #[.int .i64 k, .int .i64 s, .int .i64 r, .slice (some ⟨g1, 0, none⟩) ks.length c, .slice (some ⟨g2, 0, none⟩) vs.length d] 89)) w.heap.size k s r (.slice (some ⟨g1, 0, none⟩) ks.length c) (.slice (some ⟨g2, 0, none⟩) vs.length d) := by
  have := World.alloc_heap_new w (.cells #[.int .i64 k, .int .i64 s, .int .i64 r, .slice (some ⟨g1, 0, none⟩) ks.length c, .slice (some ⟨g2, 0, none⟩) vs.length d] 89)
  have h1 : Box5 (w.alloc (.cells #[.int .i64 k, .int .i64 s, .int .i64 r, .slice (some ⟨g1, 0, none⟩) ks.length c, .slice (some ⟨g2, 0, none⟩) vs.length d] 89)) w.heap.size k s r (.slice (some ⟨g1, 0, none⟩) ks.length c) (.slice (some ⟨g2, 0, none⟩) vs.length d) := this
  exact Box5.kept (Box5.kept h1 (World.grownBy_alloc _ _ none) (by simp)) (World.grownBy_alloc _ _ none) (by simp)
 have o1 : ((((w.alloc (.cells #[.int .i64 k, .int .i64 s, .int .i64 r, .slice (some ⟨g1, 0, none⟩) ks.length c, .slice (some ⟨g2, 0, none⟩) vs.length d] 89)).alloc (.cells #[.int .i64 0, .int .i64 0, .int .i64 0, .slice none 0 0, .slice none 0 0] 89)).alloc (.cells #[.int .i64 k, .int .i64 s, .int .i64 r, .slice (some ⟨g1, 0, none⟩) ks.length c, .slice (some ⟨g2, 0, none⟩) vs.length d] 89)).alloc (.cells #[] 3)).ownsRow w.heap.size 3 1 (.slice (some ⟨w.heap.size + 1 + 1 + 1, 0, none⟩) 0 0) 0 [] := made0 _ _ _ _ (by simp) (by simp; omega)
 have c4 : Below w.heap.size w ((((w.alloc (.cells #[.int .i64 k, .int .i64 s, .int .i64 r, .slice (some ⟨g1, 0, none⟩) ks.length c, .slice (some ⟨g2, 0, none⟩) vs.length d] 89)).alloc (.cells #[.int .i64 0, .int .i64 0, .int .i64 0, .slice none 0 0, .slice none 0 0] 89)).alloc (.cells #[.int .i64 k, .int .i64 s, .int .i64 r, .slice (some ⟨g1, 0, none⟩) ks.length c, .slice (some ⟨g2, 0, none⟩) vs.length d] 89)).alloc (.cells #[] 3)) := c3.alloc (by simp; omega) _
 have HBR := hid bR
 have HBO := hid bO
 have HBT := hid bT
 have HO1 := hid o1
 clear bR bO bT o1
 have N1 := int_news (IntRow.below HA.out c4 l1)
 have HN1 := hid N1
 clear N1
 go_enter Try.func86, Try.ntmps86
 go_wp2_with (first
  | (at_builtin; go_must (refine wpList_append_own _ rfl _ _ 42 rfl w.heap.size 3 i0 (.int .i64 0) 1 8 Try.underlying42 hi hz0 hz1 hz2 rfl (by decide) _ _ _ rfl HO1.out ⟨g1, 0, none⟩ ks.length c (ks.map (.int .i64)) rfl (by simp) HN1.out (int_one ks) (by unfold maxLen; omega) (by omega) (by simp; omega) ?_)))
 intro v1 w1 hown1 hgrow1 _
 have hown1' : w1.ownsRow w.heap.size 3 1 v1 ks.length (ks.map (.int .i64)) := by simpa using hown1
 have d1 : Below (w.heap.size + 1 + 1 + 1) (((w.alloc (.cells #[.int .i64 k, .int .i64 s, .int .i64 r, .slice (some ⟨g1, 0, none⟩) ks.length c, .slice (some ⟨g2, 0, none⟩) vs.length d] 89)).alloc (.cells #[.int .i64 0, .int .i64 0, .int .i64 0, .slice none 0 0, .slice none 0 0] 89)).alloc (.cells #[.int .i64 k, .int .i64 s, .int .i64 r, .slice (some ⟨g1, 0, none⟩) ks.length c, .slice (some ⟨g2, 0, none⟩) vs.length d] 89)) w1 := ((Below.refl _ _).alloc (by simp) _).grown hgrow1 (by simp) (fun q e => by simp [Value.ownBlock] at e; omega)
 have bR1 := Box5.below HBR.out d1 (by omega)
 have bO1 := Box5.below HBO.out d1 (by omega)
 have bT1 := Box5.below HBT.out d1 (by omega)
 have e1 : Below w.heap.size w w1 := c3.trans (d1.mono (by omega))
 have z1 := d1.size
 simp only [World.size_alloc] at z1
 obtain ⟨a1, cap1, rfl⟩ := own_slice hown1'
 have bR2 := Box5.kept bR1 (grownBy_setCell5 w1 (w.heap.size + 1 + 1) 3 (.slice a1 ks.length cap1)) (by simp)
 have bT2 := Box5.kept bT1 (grownBy_setCell5 w1 (w.heap.size + 1 + 1) 3 (.slice a1 ks.length cap1)) (by simp; omega)
 have bO2 := Box5.set3 (.slice a1 ks.length cap1) bO1
 have r2 := hown1'.kept (grownBy_setCell5 w1 (w.heap.size + 1 + 1) 3 (.slice a1 ks.length cap1)) (.inr (Box5.not_row bO1 (by decide) hown1').symm)
 have e2 : Below w.heap.size w (w1.setCell ⟨w.heap.size + 1 + 1, 3, none⟩ (.slice a1 ks.length cap1)) := e1.setCell (by simp; omega) _
 have o2 : ((w1.setCell ⟨w.heap.size + 1 + 1, 3, none⟩ (.slice a1 ks.length cap1)).alloc (.cells #[] 9)).ownsRow w.heap.size 9 1 (.slice (some ⟨w1.heap.size, 0, none⟩) 0 0) 0 [] := made0 _ _ _ _ (by simp) (by simp; omega)
 have e3 : Below w.heap.size w ((w1.setCell ⟨w.heap.size + 1 + 1, 3, none⟩ (.slice a1 ks.length cap1)).alloc (.cells #[] 9)) := e2.alloc (by simp; omega) _
 have N2 := str_news (StrRow.below HB.out e3 l2)
 obtain ⟨t0, t1, t2, t3, t4⟩ := Box5.cells bT1
 have x0 : w.heap.size < w1.heap.size := by omega
 have x1 : w.heap.size + 1 < w1.heap.size := by omega
 have x2 : w.heap.size + 1 + 1 < w1.heap.size := by omega
 obtain ⟨m0, m1, m2, m3, m4⟩ := Box5.cells bO1
 have fO1 := Box5.frozen bO1
 have HR2 := hid r2
 have HO2 := hid o2
 have HN2 := hid N2
 have HBO2 := hid bO2
 have HBR2 := hid bR2
 clear r2 o2 N2 bO2 bR2 bT2 bO1 bR1 bT1 hown1 hown1' hgrow1
 go_wp2_with (first
  | (at_builtin; go_must (refine wpList_append_own _ rfl _ _ 84 rfl w.heap.size 9 j0 (.string ⟨#[]⟩) 1 16 Try.underlying84 hj hy0 hy1 hy2 rfl (by decide) _ _ _ rfl HO2.out ⟨g2, 0, none⟩ vs.length d (vs.map .string) rfl (by simp) HN2.out (str_one vs) (by unfold maxLen; omega) (by omega) (by simp; omega) ?_)))
 intro v2 w2 hown2 hgrow2 _
 have hown2' : w2.ownsRow w.heap.size 9 1 v2 vs.length (vs.map .string) := by simpa using hown2
 have d2 : Below w1.heap.size (w1.setCell ⟨w.heap.size + 1 + 1, 3, none⟩ (.slice a1 ks.length cap1)) w2 := ((Below.refl _ _).alloc (by simp) _).grown hgrow2 (by simp) (fun q e => by simp [Value.ownBlock] at e; omega)
 have bR3 := Box5.below HBR2.out d2 (by omega)
 have bO3 := Box5.below HBO2.out d2 (by omega)
 have r3 := (World.ownsRow.alloc HR2.out (.cells #[] 9)).kept hgrow2 (rows_apart (World.ownsRow.alloc HR2.out (.cells #[] 9)) HO2.out (by decide))
 have e4 : Below w.heap.size w w2 := e2.trans (d2.mono (by omega))
 obtain ⟨a2, cap2, rfl⟩ := own_slice hown2'
 have bR4 := Box5.kept bR3 (grownBy_setCell5 w2 (w.heap.size + 1 + 1) 4 (.slice a2 vs.length cap2)) (by simp)
 have bO4 := Box5.set4 (.slice a2 vs.length cap2) bO3
 have r4 := r3.kept (grownBy_setCell5 w2 (w.heap.size + 1 + 1) 4 (.slice a2 vs.length cap2)) (.inr (Box5.not_row bO3 (by decide) r3).symm)
 have q4 := hown2'.kept (grownBy_setCell5 w2 (w.heap.size + 1 + 1) 4 (.slice a2 vs.length cap2)) (.inr (Box5.not_row bO3 (by decide) hown2').symm)
 have e5 : Below w.heap.size w (w2.setCell ⟨w.heap.size + 1 + 1, 4, none⟩ (.slice a2 vs.length cap2)) := e4.setCell (by simp; omega) _
 have R5 := row_st5 bR4 (by decide) r4 (k' := k) (s' := s) (r' := r) (v' := .slice a1 ks.length cap1) (u' := .slice a2 vs.length cap2)
 have T5 := row_st5 bR4 (by decide) q4 (k' := k) (s' := s) (r' := r) (v' := .slice a1 ks.length cap1) (u' := .slice a2 vs.length cap2)
 have B5 := st5_below (w.heap.size + 1) k s r (.slice a1 ks.length cap1) (.slice a2 vs.length cap2) e5 (by omega)
 have P5 := Box5.cells (Box5.st5 bR4 (k' := k) (s' := s) (r' := r) (v' := .slice a1 ks.length cap1) (u' := .slice a2 vs.length cap2))
 obtain ⟨u0, u1, u2, u3, u4⟩ := Box5.cells bO3
 have fO3 := Box5.frozen bO3
 obtain ⟨y0, y1, y2, y3, y4⟩ := Box5.cells bR3
 have fR4 := Box5.frozen bR3
 have HR5 := hid R5
 have HT5 := hid T5
 have HB5 := hid B5
 have HP5 := hid P5
 clear R5 T5 B5 P5 r3 r4 q4 hown2 hown2' hgrow2 bR3 bO3 bR4 bO4
 go_wp2_with fail
 obtain ⟨p0, p1, p2, p3, p4⟩ := HP5.out
 unfold st5 at p0 p1 p2 p3 p4
 refine bodyPost_ret (v := .agg #[.int .i64 k, .int .i64 s, .int .i64 r, .slice a1 ks.length cap1, .slice a2 vs.length cap2]) (by simp [results, Try.results86, go_sem, p0, p1, p2, p3, p4]) rfl ?_
 exact ⟨_, rfl, ⟨_, _, rfl, HR5.out, HT5.out⟩, HB5.out⟩
end Go.Proofs.Ytkaekiodjjhjkaa.G
namespace Go.Proofs.Ytkaekiodjjhjkaa.G
open Go.RowKit
theorem own_set {w : World} {base e g n cap i : Nat} {xs : List Value} (h : w.ownsRow base e 1 (.slice (some ⟨g, 0, none⟩) n cap) n xs) (hi : i < n) (x : Value) : (w.setCell ⟨g, i, none⟩ x).ownsRow base e 1 (.slice (some ⟨g, 0, none⟩) n cap) n (xs.set i x) := by
 refine ⟨by rw [List.length_set]; exact h.1, ?_⟩
 rcases h.2 with ⟨h', _⟩ | ⟨g', cap', cur, h', hb, hg, h1, h2, h3, h4⟩
 ·simp at h'
 ·simp only [Value.slice.injEq, Option.some.injEq, Addr.mk.injEq, and_true, true_and] at h'
  obtain ⟨rfl, rfl⟩ := h'
  obtain ⟨hlt, hk⟩ := Array.getElem?_eq_some_iff.1 hg
  refine .inr ⟨g, cap, cur.setIfInBounds i x, rfl, hb, ?_, h1, h2, by simpa using h3, ?_⟩
  ·show (w.heap.modify g _)[g]? = _
   rw [Array.getElem?_eq_getElem (by rw [Array.size_modify]; exact hlt), Array.getElem_modify_self, hk]
   rfl
  ·rw [← h4]; simp [List.take_set]
theorem apart_ne {v : Value} {g n c : Nat} (h : (Value.slice (some ⟨g, 0, none⟩) n c).ownBlock = none ∨ (Value.slice (some ⟨g, 0, none⟩) n c).ownBlock ≠ v.ownBlock) : v.ownBlock ≠ some g := by
 rcases h with h | h
 ·simp [Value.ownBlock] at h
 ·intro e; exact h (by rw [e]; rfl)
theorem own_ints' {w : World} {n₀ : Nat} {a : Option Addr} {c : Nat} {xs : List Int} (h : w.ownsRow n₀ 3 1 (.slice a xs.length c) xs.length (xs.map (.int .i64))) : ArgI w a xs := by
 obtain ⟨a', c', e, h', _⟩ := own_ints h
 simp only [Value.slice.injEq, true_and] at e
 rw [e.1]; exact h'
theorem own_pos {w : World} {n₀ e s n c : Nat} {a : Option Addr} {xs : List Value} (h : w.ownsRow n₀ e s (.slice a n c) n xs) (hn : 0 < n) : ∃ g, a = some ⟨g, 0, none⟩ := by
 rcases h.2 with ⟨_, h0⟩ | ⟨g, cap, cur, h', _⟩
 ·omega
 ·simp only [Value.slice.injEq] at h'
  exact ⟨g, h'.1⟩
def putL (k s r : Int) (ks : List Int) (vs : List ByteArray) (key : Int) (val : ByteArray) : TR :=
 if 0 ≤ atI ks key then ⟨k, s, r, ks, vs.set (atI ks key).toNat val, 0⟩ else if k = 1 then ⟨k, s, r, ks, vs, 2⟩ else if r ≤ (ks.length : Int) then ⟨k, s, r, ks, vs, 3⟩ else ⟨k, s, r, ks ++ [key], vs ++ [val], 0⟩
theorem f50 (k s r : Int) (ks : List Int) (vs : List ByteArray) (a b : Option Addr) (c d : Nat) (key : Int) (val : ByteArray) (n₀ : Nat) (w : World) (hI : w.ownsRow n₀ 3 1 (.slice a ks.length c) ks.length (ks.map (.int .i64))) (hS : w.ownsRow n₀ 9 1 (.slice b vs.length d) vs.length (vs.map .string)) (hn : n₀ ≤ w.heap.size) (hl : ks.length = vs.length) (hk8 : ks.length ≤ 8) :
 Calls Try.prog 87 #[.agg #[.int .i64 k, .int .i64 s, .int .i64 r, .slice a ks.length c, .slice b vs.length d], .int .i64 key, .string val] w fun e w' => ∃ V, e = .returned (.tuple #[V, .int .i64 (putL k s r ks vs key val).code]) ∧ Tab n₀ w' (putL k s r ks vs key val).k (putL k s r ks vs key val).s (putL k s r ks vs key val).r (putL k s r ks vs key val).ks (putL k s r ks vs key val).vs V ∧ Below n₀ w w' := by
 obtain ⟨i0, hi, hz0, hz1, hz2⟩ := info_parts info3
 obtain ⟨j0, hj, hy0, hy1, hy2⟩ := info_parts info9
 rcases atI_cases ks key with ⟨hat, hno⟩ | ⟨i, hik, hat, hthere, hno⟩
 ·clear hno
  by_cases hk : k = 1
  ·have hT : putL k s r ks vs key val = ⟨k, s, r, ks, vs, 2⟩ := by unfold putL; rw [hat, if_neg (by omega), if_pos hk]
   have HT := hid hT
   have HAT := hid hat
   have hk' : (k == 1) = true := by simpa using hk
   have HL := hid hl
   clear hT hat hk hl
   have c2 : Below w.heap.size w ((w.alloc (.cells #[.int .i64 k, .int .i64 s, .int .i64 r, .slice a ks.length c, .slice b vs.length d] 89)).alloc (.cells #[.int .i64 0, .int .i64 0, .int .i64 0, .slice none 0 0, .slice none 0 0] 89)) := ((Below.refl _ w).alloc (Nat.le_refl _) _).alloc (by simp) _
   have bR : Box5 ((w.alloc (.cells #[.int .i64 k, .int .i64 s, .int .i64 r, .slice a ks.length c, .slice b vs.length d] 89)).alloc (.cells #[.int .i64 0, .int .i64 0, .int .i64 0, .slice none 0 0, .slice none 0 0] 89)) (w.heap.size + 1) 0 0 0 (.slice none 0 0) (.slice none 0 0) := by have := World.alloc_heap_new (w.alloc (.cells #[.int .i64 k, .int .i64 s, .int .i64 r, .slice a ks.length c, .slice b vs.length d] 89)) (.cells #[.int .i64 0, .int .i64 0, .int .i64 0, .slice none 0 0, .slice none 0 0] 89); simpa [Box5] using this
   have bT : Box5 ((w.alloc (.cells #[.int .i64 k, .int .i64 s, .int .i64 r, .slice a ks.length c, .slice b vs.length d] 89)).alloc (.cells #[.int .i64 0, .int .i64 0, .int .i64 0, .slice none 0 0, .slice none 0 0] 89)) w.heap.size k s r (.slice a ks.length c) (.slice b vs.length d) := by
    have := World.alloc_heap_new w (.cells #[.int .i64 k, .int .i64 s, .int .i64 r, .slice a ks.length c, .slice b vs.length d] 89)
    have h1 : Box5 (w.alloc (.cells #[.int .i64 k, .int .i64 s, .int .i64 r, .slice a ks.length c, .slice b vs.length d] 89)) w.heap.size k s r (.slice a ks.length c) (.slice b vs.length d) := this
    exact Box5.kept h1 (World.grownBy_alloc _ _ none) (by simp)
   have HBR := hid bR
   have HBT := hid bT
   have RI := World.ownsRow.alloc (World.ownsRow.alloc hI (.cells #[.int .i64 k, .int .i64 s, .int .i64 r, .slice a ks.length c, .slice b vs.length d] 89)) (.cells #[.int .i64 0, .int .i64 0, .int .i64 0, .slice none 0 0, .slice none 0 0] 89)
   have RS := World.ownsRow.alloc (World.ownsRow.alloc hS (.cells #[.int .i64 k, .int .i64 s, .int .i64 r, .slice a ks.length c, .slice b vs.length d] 89)) (.cells #[.int .i64 0, .int .i64 0, .int .i64 0, .slice none 0 0, .slice none 0 0] 89)
   have HRI := hid RI
   have HRS := hid RS
   have HC2 := hid c2
   have AI := ArgI.below (own_ints' hI) c2 (Nat.le_refl _)
   have HAI := hid AI
   clear bR bT RI RS hI hS AI c2
   go_enter Try.func87, Try.ntmps87
   go_wp2_with fail
   refine (f45 k s r ks vs a b c d key _ HAI.out (by omega)).mono ?_
   rw [HAT.out]
   rintro e w1 ⟨rfl, hb1⟩
   have bR1 := Box5.below HBR.out hb1 (by simp)
   have bT1 := Box5.below HBT.out hb1 (by simp; omega)
   have rI1 := own_below HRI.out hb1
   have rS1 := own_below HRS.out hb1
   have c1 : Below w.heap.size w w1 := HC2.out.trans (hb1.mono (by simp; omega))
   have z1 := hb1.size
   simp only [World.size_alloc] at z1
   have x1 : w.heap.size < w1.heap.size := by omega
   have x2 : w.heap.size + 1 < w1.heap.size := by omega
   obtain ⟨t0, t1, t2, t3, t4⟩ := Box5.cells bT1
   clear hb1
   have R5 := row_st5 bR1 (by decide) rI1 (k' := k) (s' := s) (r' := r) (v' := .slice a ks.length c) (u' := .slice b vs.length d)
   have T5 := row_st5 bR1 (by decide) rS1 (k' := k) (s' := s) (r' := r) (v' := .slice a ks.length c) (u' := .slice b vs.length d)
   have B5 := st5_below (w.heap.size + 1) k s r (.slice a ks.length c) (.slice b vs.length d) (c1.mono hn) (by omega)
   have P5 := Box5.cells (Box5.st5 bR1 (k' := k) (s' := s) (r' := r) (v' := .slice a ks.length c) (u' := .slice b vs.length d))
   obtain ⟨y0, y1, y2, y3, y4⟩ := Box5.cells bR1
   have fR := Box5.frozen bR1
   obtain ⟨n0, n1, n2, n3, n4⟩ := Box5.cells bT1
   have HR5 := hid R5
   have HT5 := hid T5
   have HB5 := hid B5
   have HP5 := hid P5
   clear R5 T5 B5 P5
   clear rI1 rS1
   go_wp2_with fail
   obtain ⟨p0, p1, p2, p3, p4⟩ := HP5.out
   unfold st5 at p0 p1 p2 p3 p4
   refine bodyPost_ret (v := .tuple #[.agg #[.int .i64 k, .int .i64 s, .int .i64 r, .slice a ks.length c, .slice b vs.length d], .int .i64 2]) (by simp [results, Try.results87, go_sem, p0, p1, p2, p3, p4]) rfl ?_
   rw [HT.out]
   exact ⟨_, rfl, ⟨_, _, rfl, HR5.out, HT5.out⟩, HB5.out⟩
  ·by_cases hr : r ≤ (ks.length : Int)
   ·have hT : putL k s r ks vs key val = ⟨k, s, r, ks, vs, 3⟩ := by unfold putL; rw [hat, if_neg (by omega), if_neg hk, if_pos hr]
    have HT := hid hT
    have HAT := hid hat
    have hk' : (k == 1) = false := by simpa using hk
    have HL := hid hl
    clear hT hat hk hl
    have c2 : Below w.heap.size w ((w.alloc (.cells #[.int .i64 k, .int .i64 s, .int .i64 r, .slice a ks.length c, .slice b vs.length d] 89)).alloc (.cells #[.int .i64 0, .int .i64 0, .int .i64 0, .slice none 0 0, .slice none 0 0] 89)) := ((Below.refl _ w).alloc (Nat.le_refl _) _).alloc (by simp) _
    have bR : Box5 ((w.alloc (.cells #[.int .i64 k, .int .i64 s, .int .i64 r, .slice a ks.length c, .slice b vs.length d] 89)).alloc (.cells #[.int .i64 0, .int .i64 0, .int .i64 0, .slice none 0 0, .slice none 0 0] 89)) (w.heap.size + 1) 0 0 0 (.slice none 0 0) (.slice none 0 0) := by have := World.alloc_heap_new (w.alloc (.cells #[.int .i64 k, .int .i64 s, .int .i64 r, .slice a ks.length c, .slice b vs.length d] 89)) (.cells #[.int .i64 0, .int .i64 0, .int .i64 0, .slice none 0 0, .slice none 0 0] 89); simpa [Box5] using this
    have bT : Box5 ((w.alloc (.cells #[.int .i64 k, .int .i64 s, .int .i64 r, .slice a ks.length c, .slice b vs.length d] 89)).alloc (.cells #[.int .i64 0, .int .i64 0, .int .i64 0, .slice none 0 0, .slice none 0 0] 89)) w.heap.size k s r (.slice a ks.length c) (.slice b vs.length d) := by
     have := World.alloc_heap_new w (.cells #[.int .i64 k, .int .i64 s, .int .i64 r, .slice a ks.length c, .slice b vs.length d] 89)
     have h1 : Box5 (w.alloc (.cells #[.int .i64 k, .int .i64 s, .int .i64 r, .slice a ks.length c, .slice b vs.length d] 89)) w.heap.size k s r (.slice a ks.length c) (.slice b vs.length d) := this
     exact Box5.kept h1 (World.grownBy_alloc _ _ none) (by simp)
    have HBR := hid bR
    have HBT := hid bT
    have RI := World.ownsRow.alloc (World.ownsRow.alloc hI (.cells #[.int .i64 k, .int .i64 s, .int .i64 r, .slice a ks.length c, .slice b vs.length d] 89)) (.cells #[.int .i64 0, .int .i64 0, .int .i64 0, .slice none 0 0, .slice none 0 0] 89)
    have RS := World.ownsRow.alloc (World.ownsRow.alloc hS (.cells #[.int .i64 k, .int .i64 s, .int .i64 r, .slice a ks.length c, .slice b vs.length d] 89)) (.cells #[.int .i64 0, .int .i64 0, .int .i64 0, .slice none 0 0, .slice none 0 0] 89)
    have HRI := hid RI
    have HRS := hid RS
    have HC2 := hid c2
    have AI := ArgI.below (own_ints' hI) c2 (Nat.le_refl _)
    have HAI := hid AI
    clear bR bT RI RS hI hS AI c2
    go_enter Try.func87, Try.ntmps87
    go_wp2_with fail
    refine (f45 k s r ks vs a b c d key _ HAI.out (by omega)).mono ?_
    rw [HAT.out]
    rintro e w1 ⟨rfl, hb1⟩
    have bR1 := Box5.below HBR.out hb1 (by simp)
    have bT1 := Box5.below HBT.out hb1 (by simp; omega)
    have rI1 := own_below HRI.out hb1
    have rS1 := own_below HRS.out hb1
    have c1 : Below w.heap.size w w1 := HC2.out.trans (hb1.mono (by simp; omega))
    have z1 := hb1.size
    simp only [World.size_alloc] at z1
    have x1 : w.heap.size < w1.heap.size := by omega
    have x2 : w.heap.size + 1 < w1.heap.size := by omega
    obtain ⟨t0, t1, t2, t3, t4⟩ := Box5.cells bT1
    clear hb1
    have R5 := row_st5 bR1 (by decide) rI1 (k' := k) (s' := s) (r' := r) (v' := .slice a ks.length c) (u' := .slice b vs.length d)
    have T5 := row_st5 bR1 (by decide) rS1 (k' := k) (s' := s) (r' := r) (v' := .slice a ks.length c) (u' := .slice b vs.length d)
    have B5 := st5_below (w.heap.size + 1) k s r (.slice a ks.length c) (.slice b vs.length d) (c1.mono hn) (by omega)
    have P5 := Box5.cells (Box5.st5 bR1 (k' := k) (s' := s) (r' := r) (v' := .slice a ks.length c) (u' := .slice b vs.length d))
    obtain ⟨y0, y1, y2, y3, y4⟩ := Box5.cells bR1
    have fR := Box5.frozen bR1
    obtain ⟨n0, n1, n2, n3, n4⟩ := Box5.cells bT1
    have HR5 := hid R5
    have HT5 := hid T5
    have HB5 := hid B5
    have HP5 := hid P5
    clear R5 T5 B5 P5
    clear rI1 rS1
    go_wp2_with fail
    obtain ⟨p0, p1, p2, p3, p4⟩ := HP5.out
    unfold st5 at p0 p1 p2 p3 p4
    refine bodyPost_ret (v := .tuple #[.agg #[.int .i64 k, .int .i64 s, .int .i64 r, .slice a ks.length c, .slice b vs.length d], .int .i64 3]) (by simp [results, Try.results87, go_sem, p0, p1, p2, p3, p4]) rfl ?_
    rw [HT.out]
    exact ⟨_, rfl, ⟨_, _, rfl, HR5.out, HT5.out⟩, HB5.out⟩
   ·have hT : putL k s r ks vs key val = ⟨k, s, r, ks ++ [key], vs ++ [val], 0⟩ := by unfold putL; rw [hat, if_neg (by omega), if_neg hk, if_neg hr]
    have HT := hid hT
    have HAT := hid hat
    have hk' : (k == 1) = false := by simpa using hk
    have hr' : (ks.length : Int) < r := by omega
    have hv8 : vs.length ≤ 8 := by omega
    have HL := hid hl
    clear hT hat hk hr hl
    have c2 : Below w.heap.size w ((w.alloc (.cells #[.int .i64 k, .int .i64 s, .int .i64 r, .slice a ks.length c, .slice b vs.length d] 89)).alloc (.cells #[.int .i64 0, .int .i64 0, .int .i64 0, .slice none 0 0, .slice none 0 0] 89)) := ((Below.refl _ w).alloc (Nat.le_refl _) _).alloc (by simp) _
    have bR : Box5 ((w.alloc (.cells #[.int .i64 k, .int .i64 s, .int .i64 r, .slice a ks.length c, .slice b vs.length d] 89)).alloc (.cells #[.int .i64 0, .int .i64 0, .int .i64 0, .slice none 0 0, .slice none 0 0] 89)) (w.heap.size + 1) 0 0 0 (.slice none 0 0) (.slice none 0 0) := by have := World.alloc_heap_new (w.alloc (.cells #[.int .i64 k, .int .i64 s, .int .i64 r, .slice a ks.length c, .slice b vs.length d] 89)) (.cells #[.int .i64 0, .int .i64 0, .int .i64 0, .slice none 0 0, .slice none 0 0] 89); simpa [Box5] using this
    have bT : Box5 ((w.alloc (.cells #[.int .i64 k, .int .i64 s, .int .i64 r, .slice a ks.length c, .slice b vs.length d] 89)).alloc (.cells #[.int .i64 0, .int .i64 0, .int .i64 0, .slice none 0 0, .slice none 0 0] 89)) w.heap.size k s r (.slice a ks.length c) (.slice b vs.length d) := by
     have := World.alloc_heap_new w (.cells #[.int .i64 k, .int .i64 s, .int .i64 r, .slice a ks.length c, .slice b vs.length d] 89)
     have h1 : Box5 (w.alloc (.cells #[.int .i64 k, .int .i64 s, .int .i64 r, .slice a ks.length c, .slice b vs.length d] 89)) w.heap.size k s r (.slice a ks.length c) (.slice b vs.length d) := this
     exact Box5.kept h1 (World.grownBy_alloc _ _ none) (by simp)
    have HBR := hid bR
    have HBT := hid bT
    have RI := World.ownsRow.alloc (World.ownsRow.alloc hI (.cells #[.int .i64 k, .int .i64 s, .int .i64 r, .slice a ks.length c, .slice b vs.length d] 89)) (.cells #[.int .i64 0, .int .i64 0, .int .i64 0, .slice none 0 0, .slice none 0 0] 89)
    have RS := World.ownsRow.alloc (World.ownsRow.alloc hS (.cells #[.int .i64 k, .int .i64 s, .int .i64 r, .slice a ks.length c, .slice b vs.length d] 89)) (.cells #[.int .i64 0, .int .i64 0, .int .i64 0, .slice none 0 0, .slice none 0 0] 89)
    have HRI := hid RI
    have HRS := hid RS
    have HC2 := hid c2
    have AI := ArgI.below (own_ints' hI) c2 (Nat.le_refl _)
    have HAI := hid AI
    clear bR bT RI RS hI hS AI c2
    go_enter Try.func87, Try.ntmps87
    go_wp2_with fail
    refine (f45 k s r ks vs a b c d key _ HAI.out (by omega)).mono ?_
    rw [HAT.out]
    rintro e w1 ⟨rfl, hb1⟩
    have bR1 := Box5.below HBR.out hb1 (by simp)
    have bT1 := Box5.below HBT.out hb1 (by simp; omega)
    have rI1 := own_below HRI.out hb1
    have rS1 := own_below HRS.out hb1
    have c1 : Below w.heap.size w w1 := HC2.out.trans (hb1.mono (by simp; omega))
    have z1 := hb1.size
    simp only [World.size_alloc] at z1
    have x1 : w.heap.size < w1.heap.size := by omega
    have x2 : w.heap.size + 1 < w1.heap.size := by omega
    obtain ⟨t0, t1, t2, t3, t4⟩ := Box5.cells bT1
    clear hb1
    have HI1 := hid rI1
    have HS1 := hid rS1
    have HT1 := hid bT1
    have HR1 := hid bR1
    clear rI1 rS1
    have hle : n₀ ≤ w1.heap.size := by omega
    go_wp2_with (first
     | (at_builtin; go_must (refine wpList_append_own _ rfl _ _ 42 rfl n₀ 3 i0 (.int .i64 0) 1 8 Try.underlying42 hi hz0 hz1 hz2 rfl (by decide) _ _ _ rfl (World.ownsRow.alloc HI1.out _) ⟨w1.heap.size, 0, none⟩ 1 1 [.int .i64 key] rfl rfl (one_newE _ _ _ _ rfl) (by simp [Value.oneCell']) (by unfold maxLen; omega) (by omega) (by simp; omega) ?_)))
    intro v2 w2 hown2 hgrow2 _
    obtain ⟨ga, ca, rfl⟩ := ownsRow_succ hown2
    obtain ⟨bT2, bT3, rI3, rS3, _, l3⟩ := Box5.app3 HT1.out HI1.out HS1.out hle (by omega) hown2 hgrow2
    have bR3 := Box5.kept (Box5.kept (Box5.kept HR1.out (World.grownBy_alloc _ _ none) (by simp)) hgrow2 (Box5.not_row HR1.out (by decide) HI1.out)) (grownBy_setCell5 w2 (w.heap.size) 3 (.slice (some ⟨ga, 0, none⟩) (ks.length + 1) ca)) (by simp)
    obtain ⟨m0, m1, m2, m3, m4⟩ := Box5.cells bT2
    have fm := Box5.frozen bT2
    have z3 := l3.size
    simp only [World.size_setCell] at z3
    have HI3 := hid rI3
    have HS3 := hid rS3
    have HT3 := hid bT3
    have HR3 := hid bR3
    have hx2 : w.heap.size < w2.heap.size := by omega
    clear rI3 rS3 hown2 hgrow2
    go_wp2_with (first
     | (at_builtin; go_must (refine wpList_append_own _ rfl _ _ 84 rfl n₀ 9 j0 (.string ⟨#[]⟩) 1 16 Try.underlying84 hj hy0 hy1 hy2 rfl (by decide) _ _ _ rfl (World.ownsRow.alloc HS3.out _) ⟨w2.heap.size, 0, none⟩ 1 1 [.string val] rfl rfl (one_newE _ _ _ _ (by simp)) (by simp [Value.oneCell']) (by unfold maxLen; omega) (by omega) (by simp; omega) ?_)))
    intro v4 w4 hown4 hgrow4 _
    obtain ⟨gb, cb, rfl⟩ := ownsRow_succ hown4
    obtain ⟨bT4, bT5, rS5, rI5, _, l5⟩ := Box5.app4 HT3.out HS3.out HI3.out (by simp; omega) (by omega) hown4 hgrow4
    have bR5 := Box5.kept (Box5.kept (Box5.kept HR3.out (World.grownBy_alloc _ _ none) (by simp)) hgrow4 (Box5.not_row HR3.out (by decide) HS3.out)) (grownBy_setCell5 w4 (w.heap.size) 4 (.slice (some ⟨gb, 0, none⟩) (vs.length + 1) cb)) (by simp)
    have bR4 := Box5.kept (Box5.kept HR3.out (World.grownBy_alloc _ _ none) (by simp)) hgrow4 (Box5.not_row HR3.out (by decide) HS3.out)
    obtain ⟨k0, k1, k2, k3, k4⟩ := Box5.cells bT4
    obtain ⟨j0', j1', j2', j3', j4'⟩ := Box5.cells bR4
    have fR4 := Box5.frozen bR4
    have fk := Box5.frozen bT4
    have c5 : Below n₀ w (w4.setCell ⟨w.heap.size, 4, none⟩ (.slice (some ⟨gb, 0, none⟩) (vs.length + 1) cb)) := ((c1.mono hn).trans l3).trans l5
    have R5 := row_st5 bR5 (by decide) rI5 (k' := k) (s' := s) (r' := r) (v' := .slice (some ⟨ga, 0, none⟩) (ks.length + 1) ca) (u' := .slice (some ⟨gb, 0, none⟩) (vs.length + 1) cb)
    have T5 := row_st5 bR5 (by decide) rS5 (k' := k) (s' := s) (r' := r) (v' := .slice (some ⟨ga, 0, none⟩) (ks.length + 1) ca) (u' := .slice (some ⟨gb, 0, none⟩) (vs.length + 1) cb)
    have B5 := st5_below (w.heap.size + 1) k s r (.slice (some ⟨ga, 0, none⟩) (ks.length + 1) ca) (.slice (some ⟨gb, 0, none⟩) (vs.length + 1) cb) c5 (by omega)
    have P5 := Box5.cells (Box5.st5 bR5 (k' := k) (s' := s) (r' := r) (v' := .slice (some ⟨ga, 0, none⟩) (ks.length + 1) ca) (u' := .slice (some ⟨gb, 0, none⟩) (vs.length + 1) cb))
    obtain ⟨y0, y1, y2, y3, y4⟩ := Box5.cells bR5
    have fR := Box5.frozen bR5
    obtain ⟨n0, n1, n2, n3, n4⟩ := Box5.cells bT5
    have HR5 := hid R5
    have HT5 := hid T5
    have HB5 := hid B5
    have HP5 := hid P5
    clear R5 T5 B5 P5
    clear rI5 rS5 hown4 hgrow4
    go_wp2_with fail
    obtain ⟨p0, p1, p2, p3, p4⟩ := HP5.out
    unfold st5 at p0 p1 p2 p3 p4
    refine bodyPost_ret (v := .tuple #[.agg #[.int .i64 k, .int .i64 s, .int .i64 r, .slice (some ⟨ga, 0, none⟩) (ks.length + 1) ca, .slice (some ⟨gb, 0, none⟩) (vs.length + 1) cb], .int .i64 0]) (by simp [results, Try.results87, go_sem, p0, p1, p2, p3, p4]) rfl ?_
    rw [HT.out]
    exact ⟨_, rfl, ⟨_, _, rfl, by simpa [st5] using HR5.out, by simpa [st5] using HT5.out⟩, HB5.out⟩
 ·have hT : putL k s r ks vs key val = ⟨k, s, r, ks, vs.set i val, 0⟩ := by unfold putL; rw [hat, if_pos (by omega)]; simp
  have HT := hid hT
  have HAT := hid hat
  have hiv : i < vs.length := by omega
  have hiv' : (i : Int) < (vs.length : Int) := by omega
  obtain ⟨g, rfl⟩ := own_pos hS (by omega)
  have HL := hid hl
  clear hT hat hno hthere hl
  have c2 : Below w.heap.size w ((w.alloc (.cells #[.int .i64 k, .int .i64 s, .int .i64 r, .slice a ks.length c, .slice (some ⟨g, 0, none⟩) vs.length d] 89)).alloc (.cells #[.int .i64 0, .int .i64 0, .int .i64 0, .slice none 0 0, .slice none 0 0] 89)) := ((Below.refl _ w).alloc (Nat.le_refl _) _).alloc (by simp) _
  have bR : Box5 ((w.alloc (.cells #[.int .i64 k, .int .i64 s, .int .i64 r, .slice a ks.length c, .slice (some ⟨g, 0, none⟩) vs.length d] 89)).alloc (.cells #[.int .i64 0, .int .i64 0, .int .i64 0, .slice none 0 0, .slice none 0 0] 89)) (w.heap.size + 1) 0 0 0 (.slice none 0 0) (.slice none 0 0) := by have := World.alloc_heap_new (w.alloc (.cells #[.int .i64 k, .int .i64 s, .int .i64 r, .slice a ks.length c, .slice (some ⟨g, 0, none⟩) vs.length d] 89)) (.cells #[.int .i64 0, .int .i64 0, .int .i64 0, .slice none 0 0, .slice none 0 0] 89); simpa [Box5] using this
  have bT : Box5 ((w.alloc (.cells #[.int .i64 k, .int .i64 s, .int .i64 r, .slice a ks.length c, .slice (some ⟨g, 0, none⟩) vs.length d] 89)).alloc (.cells #[.int .i64 0, .int .i64 0, .int .i64 0, .slice none 0 0, .slice none 0 0] 89)) w.heap.size k s r (.slice a ks.length c) (.slice (some ⟨g, 0, none⟩) vs.length d) := by
   have := World.alloc_heap_new w (.cells #[.int .i64 k, .int .i64 s, .int .i64 r, .slice a ks.length c, .slice (some ⟨g, 0, none⟩) vs.length d] 89)
   have h1 : Box5 (w.alloc (.cells #[.int .i64 k, .int .i64 s, .int .i64 r, .slice a ks.length c, .slice (some ⟨g, 0, none⟩) vs.length d] 89)) w.heap.size k s r (.slice a ks.length c) (.slice (some ⟨g, 0, none⟩) vs.length d) := this
   exact Box5.kept h1 (World.grownBy_alloc _ _ none) (by simp)
  have HBR := hid bR
  have HBT := hid bT
  have RI := World.ownsRow.alloc (World.ownsRow.alloc hI (.cells #[.int .i64 k, .int .i64 s, .int .i64 r, .slice a ks.length c, .slice (some ⟨g, 0, none⟩) vs.length d] 89)) (.cells #[.int .i64 0, .int .i64 0, .int .i64 0, .slice none 0 0, .slice none 0 0] 89)
  have RS := World.ownsRow.alloc (World.ownsRow.alloc hS (.cells #[.int .i64 k, .int .i64 s, .int .i64 r, .slice a ks.length c, .slice (some ⟨g, 0, none⟩) vs.length d] 89)) (.cells #[.int .i64 0, .int .i64 0, .int .i64 0, .slice none 0 0, .slice none 0 0] 89)
  have HRI := hid RI
  have HRS := hid RS
  have HC2 := hid c2
  have AI := ArgI.below (own_ints' hI) c2 (Nat.le_refl _)
  have HAI := hid AI
  clear bR bT RI RS hI hS AI c2
  go_enter Try.func87, Try.ntmps87
  go_wp2_with fail
  refine (f45 k s r ks vs a (some ⟨g, 0, none⟩) c d key _ HAI.out (by omega)).mono ?_
  rw [HAT.out]
  rintro e w1 ⟨rfl, hb1⟩
  have bR1 := Box5.below HBR.out hb1 (by simp)
  have bT1 := Box5.below HBT.out hb1 (by simp; omega)
  have rI1 := own_below HRI.out hb1
  have rS1 := own_below HRS.out hb1
  have c1 : Below w.heap.size w w1 := HC2.out.trans (hb1.mono (by simp; omega))
  have z1 := hb1.size
  simp only [World.size_alloc] at z1
  have x1 : w.heap.size < w1.heap.size := by omega
  have x2 : w.heap.size + 1 < w1.heap.size := by omega
  obtain ⟨t0, t1, t2, t3, t4⟩ := Box5.cells bT1
  clear hb1
  have gI := rows_apart rS1 rI1 (by decide)
  have gne : g ≠ w.heap.size := fun e => Box5.not_row bT1 (by decide) rS1 (by rw [e]; rfl)
  have gne1 : g ≠ w.heap.size + 1 := fun e => Box5.not_row bR1 (by decide) rS1 (by rw [e]; rfl)
  have cg : w1.cell? ⟨g, i, none⟩ = some (.string vs[i]) := by rw [rS1.cellAt i (by omega)]; simp [List.getElem?_eq_getElem hiv]
  have fg : w1.frozen? ⟨g, i, none⟩ = false := rS1.frozenAt i
  have bR2 := Box5.kept bR1 (grownBy_setCell5 w1 g i (.string val)) (by simp; omega)
  have bT2 := Box5.kept bT1 (grownBy_setCell5 w1 g i (.string val)) (by simp; omega)
  have rI2 := ownsRow_setCell_other rI1 (a := ⟨g, i, none⟩) (apart_ne gI) (.string val)
  have rS2 := own_set rS1 (by omega) (.string val)
  have gl : n₀ ≤ g := own_base rS1 g rfl
  have c2' : Below n₀ w (w1.setCell ⟨g, i, none⟩ (.string val)) := (c1.mono hn).setCell gl _
  have R5 := row_st5 bR2 (by decide) rI2 (k' := k) (s' := s) (r' := r) (v' := .slice a ks.length c) (u' := .slice (some ⟨g, 0, none⟩) vs.length d)
  have T5 := row_st5 bR2 (by decide) rS2 (k' := k) (s' := s) (r' := r) (v' := .slice a ks.length c) (u' := .slice (some ⟨g, 0, none⟩) vs.length d)
  have B5 := st5_below (w.heap.size + 1) k s r (.slice a ks.length c) (.slice (some ⟨g, 0, none⟩) vs.length d) c2' (by omega)
  have P5 := Box5.cells (Box5.st5 bR2 (k' := k) (s' := s) (r' := r) (v' := .slice a ks.length c) (u' := .slice (some ⟨g, 0, none⟩) vs.length d))
  obtain ⟨y0, y1, y2, y3, y4⟩ := Box5.cells bR2
  have fR := Box5.frozen bR2
  obtain ⟨n0, n1, n2, n3, n4⟩ := Box5.cells bT2
  have HR5 := hid R5
  have HT5 := hid T5
  have HB5 := hid B5
  have HP5 := hid P5
  clear R5 T5 B5 P5
  clear rI1 rS1 rI2 rS2 gI
  go_wp2_with fail
  obtain ⟨p0, p1, p2, p3, p4⟩ := HP5.out
  unfold st5 at p0 p1 p2 p3 p4
  refine bodyPost_ret (v := .tuple #[.agg #[.int .i64 k, .int .i64 s, .int .i64 r, .slice a ks.length c, .slice (some ⟨g, 0, none⟩) vs.length d], .int .i64 0]) (by simp [results, Try.results87, go_sem, p0, p1, p2, p3, p4]) rfl ?_
  rw [HT.out]
  exact ⟨_, rfl, ⟨_, _, rfl, HR5.out, by have := HT5.out; rw [← List.map_set] at this; simpa [st5] using this⟩, HB5.out⟩
end Go.Proofs.Ytkaekiodjjhjkaa.G
namespace Go.Proofs.Ytkaekiodjjhjkaa.G
open Go.RowKit
theorem putO_fst (ps : List Pr) (key : Int) (val : ByteArray) : (putO ps key val).map Prod.fst = ps.map Prod.fst := by
 simp only [putO, List.map_map]
 refine List.map_congr_left fun x _ => ?_
 simp only [Function.comp]
 split <;> rfl
theorem putO_snd {ks : List Int} {vs : List ByteArray} {key : Int} {val : ByteArray} {i : Nat} (hl : ks.length = vs.length) (hi : i < ks.length) (he : (ks[i] == key) = true) (hn : ∀ j (h : j < ks.length), j ≠ i → (ks[j] == key) = false) : (putO (ks.zip vs) key val).map Prod.snd = vs.set i val := by
 refine List.ext_getElem (by simp [putO]; omega) fun j h1 h2 => ?_
 simp only [putO, List.length_map, List.length_zip] at h1
 rw [List.getElem_set]
 simp only [putO, List.getElem_map, List.getElem_zip]
 by_cases e : i = j
 ·subst e; rw [if_pos he, if_pos rfl]
 ·rw [if_neg e, if_neg (by rw [hn j (by omega) (fun e' => e e'.symm)]; simp)]
theorem putO_none {ps : List Pr} {key : Int} {val : ByteArray} (h : ∀ x ∈ ps, (x.1 == key) = false) : putO ps key val = ps := by
 unfold putO
 conv => rhs; rw [← List.map_id ps]
 refine List.map_congr_left fun x hx => ?_
 rw [h x hx]; simp
theorem putL_eq {k s r : Int} {ks : List Int} {vs : List ByteArray} {key : Int} {val : ByteArray} (hok : okB k s r ks vs = true) (hf : ¬ (inB key 0 4294967295 = false ∨ (val.size : Int) ≠ s)) : putL k s r ks vs key val = putT k s r ks vs key val := by
 have h := okB_true.1 hok
 obtain ⟨hl, hle, _⟩ := shape2_len h.shape
 unfold putT
 rw [if_pos hok]
 rcases atI_cases ks key with ⟨hat, hno⟩ | ⟨i, hi, hat, hthere, hno⟩
 ·have hmem : ¬ key ∈ ks := fun hm => by
   obtain ⟨j, hj, e⟩ := List.getElem_of_mem hm
   have := hno j hj
   simp [e] at this
  have hz : ∀ x ∈ ks.zip vs, (x.1 == key) = false := fun x hx => by
   obtain ⟨j, hj, e⟩ := List.getElem_of_mem (List.of_mem_zip hx).1
   rw [← e]; exact hno j hj
  have hany : anyK (ks.zip vs) key = false := by simp only [anyK]; rw [List.any_eq_false]; intro x hx; simp [hz x hx]
  unfold putL codeI
  rw [hat, if_neg (by omega), if_neg hf, if_neg hmem]
  by_cases hk : k = 1
  ·rw [if_pos hk, if_pos hk, if_neg (by omega)]
  ·rw [if_neg hk, if_neg hk]
   by_cases hr : (ks.length : Int) = r
   ·rw [if_pos hr, if_pos (by omega), if_neg (by omega)]
   ·rw [if_neg hr, if_neg (by omega), if_pos rfl]
    unfold putP
    rw [hany, if_neg (by simp), putO_none hz]
    simp [List.map_fst_zip (show ks.length ≤ vs.length by omega), List.map_snd_zip (show vs.length ≤ ks.length by omega)]
 ·have hmem : key ∈ ks := by have := List.getElem_mem hi; simp at hthere; rw [hthere] at this; exact this
  have huniq : ∀ j (h : j < ks.length), j ≠ i → (ks[j] == key) = false := by
   intro j hj hne
   have e : ks[i] = key := by simpa using hthere
   rw [← e]
   by_cases hji : j < i
   ·have := h.good.once i hi hi j hji; simpa using this
   ·have := h.good.once j hj hj i (by omega); simpa using fun e' => this e'.symm
  have hany : anyK (ks.zip vs) key = true := by
   simp only [anyK]
   rw [List.any_eq_true]
   exact ⟨(ks[i], vs[i]'(by omega)), by rw [← List.getElem_zip (h := by simp; omega)]; exact List.getElem_mem _, hthere⟩
  unfold putL codeI
  rw [hat, if_pos (by omega), if_neg hf, if_pos hmem, if_pos rfl]
  unfold putP
  rw [hany, if_pos rfl, putO_fst, List.map_fst_zip (by omega), putO_snd hl hi hthere huniq]
  simp
end Go.Proofs.Ytkaekiodjjhjkaa.G
namespace Go.Proofs.Ytkaekiodjjhjkaa.G
open Go.RowKit
def B5 (t : TypeId) (W : World) (B : Nat) (k s r : Int) (v u : Value) : Prop := W.heap[B]? = some (.cells #[.int .i64 k, .int .i64 s, .int .i64 r, v, u] t (0, 0))
theorem B5.new (W : World) (t : TypeId) (k s r : Int) (v u : Value) : B5 t (W.alloc (.cells #[.int .i64 k, .int .i64 s, .int .i64 r, v, u] t)) W.heap.size k s r v u := World.alloc_heap_new W _
theorem B5.lt {t : TypeId} {W : World} {B : Nat} {k s r : Int} {v u : Value} (h : B5 t W B k s r v u) : B < W.heap.size := (Array.getElem?_eq_some_iff.1 h).1
theorem B5.cells {t : TypeId} {W : World} {B : Nat} {k s r : Int} {v u : Value} (h : B5 t W B k s r v u) : W.cell? ⟨B, 0, none⟩ = some (.int .i64 k) ∧ W.cell? ⟨B, 1, none⟩ = some (.int .i64 s) ∧ W.cell? ⟨B, 2, none⟩ = some (.int .i64 r) ∧ W.cell? ⟨B, 3, none⟩ = some v ∧ W.cell? ⟨B, 4, none⟩ = some u := by simp [World.cell?, show W.heap[B]? = _ from h]
theorem B5.exc {S : Nat → Prop} {t : TypeId} {W W' : World} {B : Nat} {k s r : Int} {v u : Value} (h : B5 t W B k s r v u) (he : Exc S W W') (hs : ¬ S B) : B5 t W' B k s r v u := (he.block B (B5.lt h) hs).trans h
theorem B5.alloc {t : TypeId} {W : World} {B : Nat} {k s r : Int} {v u : Value} (h : B5 t W B k s r v u) (X : Obj) : B5 t (W.alloc X) B k s r v u := B5.exc (S := fun _ => False) h (Exc.of ((Below.refl _ _).alloc (Nat.le_refl _) _)) id
theorem TabP.exc {S : Nat → Prop} {n₀ : Nat} {w w' : World} {ks : List Int} {vs : List ByteArray} {a b : Option Addr} (h : TabP n₀ w ks vs a b) (he : Exc S w w') (hs : ∀ q, isBlk a q ∨ isBlk b q → ¬ S q) : TabP n₀ w' ks vs a b :=
 ⟨h.ints.exc he (fun q hq => hs q (.inl hq)), h.strs.exc he (fun q hq => hs q (.inr hq)), h.wi.exc he (fun q hq => hs q (.inl hq)), h.ws.exc he (fun q hq => hs q (.inr hq)),
  fun q hq => ⟨(h.bi q hq).1, by have := (h.bi q hq).2; have := he.size; omega⟩, fun q hq => ⟨(h.bs q hq).1, by have := (h.bs q hq).2; have := he.size; omega⟩, h.ap⟩
end Go.Proofs.Ytkaekiodjjhjkaa.G
