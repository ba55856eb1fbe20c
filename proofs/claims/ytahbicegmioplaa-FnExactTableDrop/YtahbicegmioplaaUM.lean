/- TableDrop of the program. -/
import Derived.Test.YtahbicegmioplaaUH
import Derived.Test.YtahbicegmioplaaTN
namespace Go.Proofs.Ytahbicegmioplaa
open Go.RowKit
set_option linter.unusedSimpArgs false
set_option linter.unusedVariables false

noncomputable def dropT (k s r : Int) (ks : List Int) (vs : List ByteArray) (key : Int) : TR × Bool :=
  if okB k s r ks vs = true then
    (if (lookP (ks.zip vs) key).2 = true then
      (if k = 1 then (⟨k, s, r, (putP (ks.zip vs) key (zerosB s.toNat)).map Prod.fst, (putP (ks.zip vs) key (zerosB s.toNat)).map Prod.snd, 0⟩, true) else (⟨k, s, r, (dropP (ks.zip vs) key).map Prod.fst, (dropP (ks.zip vs) key).map Prod.snd, 0⟩, true))
     else (⟨k, s, r, ks, vs, 0⟩, false))
  else (⟨0, 0, 0, [], [], 0⟩, false)

set_option maxRecDepth 100000 in
set_option maxHeartbeats 4000000 in
theorem f23 (k s r : Int) (ks : List Int) (vs : List ByteArray) (a b : Option Addr) (c d : Nat) (key : Int) (w : World) (hA : ArgI w a ks) (hB : ArgS w b vs) (hc : ks.length ≤ c) (hkm : ks.length ≤ 1048576) (hvm : vs.length ≤ 1048576) :
    Calls Try.prog 21 #[.agg #[.int .i64 k, .int .i64 s, .int .i64 r, .slice a ks.length c, .slice b vs.length d], .int .i64 key] w fun e w' => ∃ V, e = .returned (.tuple #[V, .bool (dropT k s r ks vs key).2]) ∧ Tab w.heap.size w' (dropT k s r ks vs key).1.k (dropT k s r ks vs key).1.s (dropT k s r ks vs key).1.r (dropT k s r ks vs key).1.ks (dropT k s r ks vs key).1.vs V ∧ Below w.heap.size w w' := by
  have c0 : ∀ X Y, Below w.heap.size w ((w.alloc X).alloc Y) := fun X Y => ((Below.refl _ _).alloc (Nat.le_refl _) _).alloc (by simp) _
  have HA := hid hA
  have HB := hid hB
  clear hA hB
  cases hok : okB k s r ks vs
  case false =>
    have hT : dropT k s r ks vs key = (⟨0, 0, 0, [], [], 0⟩, false) := by unfold dropT; rw [hok, if_neg (by simp)]
    have HT := hid hT
    clear hT
    go_enter Try.func21, Try.ntmps21
    go_wp2_with fail
    have bR0 : Box5 ((w.alloc (.cells #[.int .i64 k, .int .i64 s, .int .i64 r, .slice a ks.length c, .slice b vs.length d] 28)).alloc (.cells #[.int .i64 0, .int .i64 0, .int .i64 0, .slice none 0 0, .slice none 0 0] 28)) (w.heap.size + 1) 0 0 0 (.slice none 0 0) (.slice none 0 0) := by have := World.alloc_heap_new (w.alloc (.cells #[.int .i64 k, .int .i64 s, .int .i64 r, .slice a ks.length c, .slice b vs.length d] 28)) (.cells #[.int .i64 0, .int .i64 0, .int .i64 0, .slice none 0 0, .slice none 0 0] 28); simpa [Box5] using this
    refine (f12b k s r ks vs a b c d _ (ArgI.below HA.out (c0 _ _) (Nat.le_refl _)) (ArgS.below HB.out (c0 _ _) (Nat.le_refl _)) hc hkm hvm).mono ?_
    rw [hok]
    rintro e w1 ⟨rfl, hb1⟩
    obtain ⟨hc1, hf1⟩ := bcell hb1
    have z1 := hb1.size
    simp only [World.size_alloc] at z1
    have x1 : w.heap.size < w1.heap.size := by omega
    have c1 : Below w.heap.size w w1 := (c0 _ _).trans (hb1.mono (by simp; omega))
    have bR1 := Box5.below bR0 hb1 (by simp)
    obtain ⟨q0, q1, q2, q3, q4⟩ := Box5.cells bR1
    have hfr := Box5.frozen bR1
    have B5 := st5_below (w.heap.size + 1) 0 0 0 (.slice none 0 0) (.slice none 0 0) c1 (by omega)
    have P5 := Box5.cells (Box5.st5 bR1 (k' := 0) (s' := 0) (r' := 0) (v' := .slice none 0 0) (u' := .slice none 0 0))
    have HB5 := hid B5
    have HP5 := hid P5
    clear B5 P5
    go_wp2_with fail
    obtain ⟨p0, p1, p2, p3, p4⟩ := HP5.out
    unfold st5 at p0 p1 p2 p3 p4
    refine bodyPost_ret (v := .tuple #[.agg #[.int .i64 0, .int .i64 0, .int .i64 0, .slice none 0 0, .slice none 0 0], .bool false]) (by simp [results, Try.results21, go_sem, p0, p1, p2, p3, p4]) rfl ?_
    rw [HT.out]
    exact ⟨_, rfl, Tab.nil _ _ _ _ _, HB5.out⟩
  have hOK := okB_true.1 hok
  have hsh := shape2_len hOK.shape
  have hs8 : 1 ≤ s ∧ s ≤ 8 := by have := hOK.shape; simp [shape2B, shapeB, inB] at this; omega
  have HSH := hid hsh
  have hk8 : ks.length ≤ 8 := by omega
  obtain ⟨ps, hps⟩ : ∃ ps, ps = ks.zip vs := ⟨_, rfl⟩
  have HPS := hid hps
  have hp8 : ps.length ≤ 8 := by rw [hps]; simp; omega
  obtain ⟨⟨lv, th⟩, hlk⟩ : ∃ q, lookP ps key = q := ⟨_, rfl⟩
  have HLK := hid hlk
  cases th
  · have hT : dropT k s r ks vs key = (⟨k, s, r, ks, vs, 0⟩, false) := by unfold dropT; rw [if_pos hok, ← hps, hlk, if_neg (by simp)]
    have HT := hid hT
    clear hT hlk hps hsh hOK
    go_enter Try.func21, Try.ntmps21
    go_wp2_with fail
    have bR0 : Box5 ((w.alloc (.cells #[.int .i64 k, .int .i64 s, .int .i64 r, .slice a ks.length c, .slice b vs.length d] 28)).alloc (.cells #[.int .i64 0, .int .i64 0, .int .i64 0, .slice none 0 0, .slice none 0 0] 28)) (w.heap.size + 1) 0 0 0 (.slice none 0 0) (.slice none 0 0) := by have := World.alloc_heap_new (w.alloc (.cells #[.int .i64 k, .int .i64 s, .int .i64 r, .slice a ks.length c, .slice b vs.length d] 28)) (.cells #[.int .i64 0, .int .i64 0, .int .i64 0, .slice none 0 0, .slice none 0 0] 28); simpa [Box5] using this
    refine (f12b k s r ks vs a b c d _ (ArgI.below HA.out (c0 _ _) (Nat.le_refl _)) (ArgS.below HB.out (c0 _ _) (Nat.le_refl _)) hc hkm hvm).mono ?_
    rw [hok]
    rintro e w1 ⟨rfl, hb1⟩
    obtain ⟨hc1, hf1⟩ := bcell hb1
    have z1 := hb1.size
    simp only [World.size_alloc] at z1
    have x1 : w.heap.size < w1.heap.size := by omega
    have c1 : Below w.heap.size w w1 := (c0 _ _).trans (hb1.mono (by simp; omega))
    have bR1 := Box5.below bR0 hb1 (by simp)
    go_wp2_with fail
    refine (f46 k s r ks vs a b c d _ (ArgI.below HA.out c1 (Nat.le_refl _)) (ArgS.below HB.out c1 (Nat.le_refl _)) HSH.out.1 hk8).mono ?_
    rintro e w2 ⟨v, rfl, hown, hb2⟩
    have hpl : (ks.zip vs).length ≤ 1048576 := by simp; omega
    rw [← HPS.out] at hown hpl
    obtain ⟨a2, cap2, rfl, hP⟩ := own_argP hown
    have HP := hid hP
    have HPL := hid hpl
    clear hP hown hpl
    obtain ⟨hc2, hf2⟩ := bcell hb2
    have z2 := hb2.size
    have x2 : w.heap.size < w2.heap.size := by omega
    have c2 : Below w.heap.size w w2 := c1.trans (hb2.mono (by omega))
    have bR2 := Box5.below bR1 hb2 (by omega)
    go_wp2_with fail
    refine (f47 a2 cap2 ps key HPL.out w2 HP.out).mono ?_
    rw [HLK.out]
    rintro e w3 ⟨rfl, hb3⟩
    obtain ⟨hc3, hf3⟩ := bcell hb3
    have z3 := hb3.size
    have x3 : w.heap.size < w3.heap.size := by omega
    have c3 : Below w.heap.size w w3 := c2.trans (hb3.mono (by omega))
    have bR3 := Box5.below bR2 hb3 (by omega)
    go_wp2_with fail
    refine (f40 k s r a b ks.length vs.length c d a2 cap2 ps HPL.out w3 (ArgP.lift HP.out hb3)).mono ?_
    rintro e w6 ⟨v6, u6, rfl, r60, t60, hb6⟩
    have r6 := own_mono r60 (show w.heap.size ≤ w3.heap.size by omega)
    have t6 := own_mono t60 (show w.heap.size ≤ w3.heap.size by omega)
    obtain ⟨a6, cap6, rfl⟩ := own_slice r6
    obtain ⟨a7, cap7, rfl⟩ := own_slice t6
    clear r60 t60
    obtain ⟨hc6, hf6⟩ := bcell hb6
    have z6 := hb6.size
    have x6 : w.heap.size < w6.heap.size := by omega
    have c6 : Below w.heap.size w w6 := c3.trans (hb6.mono (by omega))
    have bR6 := Box5.below bR3 hb6 (by omega)
    obtain ⟨q0, q1, q2, q3, q4⟩ := Box5.cells bR6
    have hfr := Box5.frozen bR6
    have R5 := row_st5 bR6 (by decide) r6 (k' := k) (s' := s) (r' := r) (v' := .slice a6 ps.length cap6) (u' := .slice a7 ps.length cap7)
    have T5 := row_st5 bR6 (by decide) t6 (k' := k) (s' := s) (r' := r) (v' := .slice a6 ps.length cap6) (u' := .slice a7 ps.length cap7)
    have B5 := st5_below (w.heap.size + 1) k s r (.slice a6 ps.length cap6) (.slice a7 ps.length cap7) c6 (by omega)
    have P5 := Box5.cells (Box5.st5 bR6 (k' := k) (s' := s) (r' := r) (v' := .slice a6 ps.length cap6) (u' := .slice a7 ps.length cap7))
    have HR5 := hid R5
    have HT5 := hid T5
    have HB5 := hid B5
    have HP5 := hid P5
    clear R5 T5 B5 P5 r6 t6
    go_wp2_with fail
    obtain ⟨p0, p1, p2, p3, p4⟩ := HP5.out
    unfold st5 at p0 p1 p2 p3 p4
    refine bodyPost_ret (v := .tuple #[.agg #[.int .i64 k, .int .i64 s, .int .i64 r, .slice a6 ps.length cap6, .slice a7 ps.length cap7], .bool false]) (by simp [results, Try.results21, go_sem, p0, p1, p2, p3, p4]) rfl ?_
    rw [HT.out]
    dsimp only
    refine ⟨_, rfl, ⟨_, _, rfl, ?_, ?_⟩, HB5.out⟩
    · have := HR5.out
      rw [HPS.out, ints_zip HSH.out.1] at this
      simpa [st5, HPS.out, HSH.out.1] using this
    · have := HT5.out
      rw [HPS.out, strs_zip HSH.out.1] at this
      simpa [st5, HPS.out, HSH.out.1] using this
  · by_cases hk : k = 1
    · obtain ⟨n, rfl⟩ : ∃ n : Nat, s = n := ⟨s.toNat, by omega⟩
      have hn : n ≤ 8 := by omega
      have hk1 : (k == 1) = true := by simpa using hk
      have hk2 : (k == 2) = false := by subst hk; rfl
      obtain ⟨qs, hqs⟩ : ∃ qs, qs = putP ps key (zerosB n) := ⟨_, rfl⟩
      have hT : dropT k n r ks vs key = (⟨k, n, r, qs.map Prod.fst, qs.map Prod.snd, 0⟩, true) := by unfold dropT; rw [if_pos hok, ← hps, hlk, if_pos rfl, if_pos hk, Int.toNat_natCast, ← hqs]
      have hql : qs.length ≤ 1048576 := by have := putP_length ps key (zerosB n); rw [hqs]; omega
      have HT := hid hT
      have HQS := hid hqs
      have HQL := hid hql
      clear hT hlk hps hsh hOK hqs hql hk
      go_enter Try.func21, Try.ntmps21
      go_wp2_with fail
      have bR0 : Box5 ((w.alloc (.cells #[.int .i64 k, .int .i64 n, .int .i64 r, .slice a ks.length c, .slice b vs.length d] 28)).alloc (.cells #[.int .i64 0, .int .i64 0, .int .i64 0, .slice none 0 0, .slice none 0 0] 28)) (w.heap.size + 1) 0 0 0 (.slice none 0 0) (.slice none 0 0) := by have := World.alloc_heap_new (w.alloc (.cells #[.int .i64 k, .int .i64 n, .int .i64 r, .slice a ks.length c, .slice b vs.length d] 28)) (.cells #[.int .i64 0, .int .i64 0, .int .i64 0, .slice none 0 0, .slice none 0 0] 28); simpa [Box5] using this
      refine (f12b k n r ks vs a b c d _ (ArgI.below HA.out (c0 _ _) (Nat.le_refl _)) (ArgS.below HB.out (c0 _ _) (Nat.le_refl _)) hc hkm hvm).mono ?_
      rw [hok]
      rintro e w1 ⟨rfl, hb1⟩
      obtain ⟨hc1, hf1⟩ := bcell hb1
      have z1 := hb1.size
      simp only [World.size_alloc] at z1
      have x1 : w.heap.size < w1.heap.size := by omega
      have c1 : Below w.heap.size w w1 := (c0 _ _).trans (hb1.mono (by simp; omega))
      have bR1 := Box5.below bR0 hb1 (by simp)
      go_wp2_with fail
      refine (f46 k n r ks vs a b c d _ (ArgI.below HA.out c1 (Nat.le_refl _)) (ArgS.below HB.out c1 (Nat.le_refl _)) HSH.out.1 hk8).mono ?_
      rintro e w2 ⟨v, rfl, hown, hb2⟩
      have hpl : (ks.zip vs).length ≤ 1048576 := by simp; omega
      rw [← HPS.out] at hown hpl
      obtain ⟨a2, cap2, rfl, hP⟩ := own_argP hown
      have HP := hid hP
      have HPL := hid hpl
      clear hP hown hpl
      obtain ⟨hc2, hf2⟩ := bcell hb2
      have z2 := hb2.size
      have x2 : w.heap.size < w2.heap.size := by omega
      have c2 : Below w.heap.size w w2 := c1.trans (hb2.mono (by omega))
      have bR2 := Box5.below bR1 hb2 (by omega)
      go_wp2_with fail
      refine (f47 a2 cap2 ps key HPL.out w2 HP.out).mono ?_
      rw [HLK.out]
      rintro e w3 ⟨rfl, hb3⟩
      obtain ⟨hc3, hf3⟩ := bcell hb3
      have z3 := hb3.size
      have x3 : w.heap.size < w3.heap.size := by omega
      have c3 : Below w.heap.size w w3 := c2.trans (hb3.mono (by omega))
      have bR3 := Box5.below bR2 hb3 (by omega)
      go_wp2_with fail
      refine (f39 n _ hn).mono ?_
      rintro e w4 ⟨rfl, hb4⟩
      obtain ⟨hc4, hf4⟩ := bcell hb4
      have z4 := hb4.size
      have x4 : w.heap.size < w4.heap.size := by omega
      have c4 : Below w.heap.size w w4 := c3.trans (hb4.mono (by omega))
      have bR4 := Box5.below bR3 hb4 (by omega)
      go_wp2_with fail
      refine (f38 a2 cap2 ps key (zerosB n) HPL.out w4 (ArgP.lift (ArgP.lift HP.out hb3) hb4)).mono ?_
      rintro e w5 ⟨v5, rfl, hown5, hb5⟩
      rw [← HQS.out] at hown5
      obtain ⟨a5, cap5, rfl, hP5⟩ := own_argP hown5
      have HP5q := hid hP5
      clear hP5 hown5
      obtain ⟨hc5, hf5⟩ := bcell hb5
      have z5 := hb5.size
      have x5 : w.heap.size < w5.heap.size := by omega
      have c5 : Below w.heap.size w w5 := c4.trans (hb5.mono (by omega))
      have bR5 := Box5.below bR4 hb5 (by omega)
      go_wp2_with fail
      refine (f40 k n r a b ks.length vs.length c d a5 cap5 qs HQL.out w5 HP5q.out).mono ?_
      rintro e w6 ⟨v6, u6, rfl, r60, t60, hb6⟩
      have r6 := own_mono r60 (show w.heap.size ≤ w5.heap.size by omega)
      have t6 := own_mono t60 (show w.heap.size ≤ w5.heap.size by omega)
      obtain ⟨a6, cap6, rfl⟩ := own_slice r6
      obtain ⟨a7, cap7, rfl⟩ := own_slice t6
      clear r60 t60
      obtain ⟨hc6, hf6⟩ := bcell hb6
      have z6 := hb6.size
      have x6 : w.heap.size < w6.heap.size := by omega
      have c6 : Below w.heap.size w w6 := c5.trans (hb6.mono (by omega))
      have bR6 := Box5.below bR5 hb6 (by omega)
      obtain ⟨q0, q1, q2, q3, q4⟩ := Box5.cells bR6
      have hfr := Box5.frozen bR6
      have R5 := row_st5 bR6 (by decide) r6 (k' := k) (s' := n) (r' := r) (v' := .slice a6 qs.length cap6) (u' := .slice a7 qs.length cap7)
      have T5 := row_st5 bR6 (by decide) t6 (k' := k) (s' := n) (r' := r) (v' := .slice a6 qs.length cap6) (u' := .slice a7 qs.length cap7)
      have B5 := st5_below (w.heap.size + 1) k n r (.slice a6 qs.length cap6) (.slice a7 qs.length cap7) c6 (by omega)
      have P5 := Box5.cells (Box5.st5 bR6 (k' := k) (s' := n) (r' := r) (v' := .slice a6 qs.length cap6) (u' := .slice a7 qs.length cap7))
      have HR5 := hid R5
      have HT5 := hid T5
      have HB5 := hid B5
      have HP5 := hid P5
      clear R5 T5 B5 P5 r6 t6
      go_wp2_with fail
      obtain ⟨p0, p1, p2, p3, p4⟩ := HP5.out
      unfold st5 at p0 p1 p2 p3 p4
      refine bodyPost_ret (v := .tuple #[.agg #[.int .i64 k, .int .i64 n, .int .i64 r, .slice a6 qs.length cap6, .slice a7 qs.length cap7], .bool true]) (by simp [results, Try.results21, go_sem, p0, p1, p2, p3, p4]) rfl ?_
      rw [HT.out]
      dsimp only
      refine ⟨_, rfl, ⟨_, _, rfl, ?_, ?_⟩, HB5.out⟩
      · rw [List.length_map, List.map_map]; exact HR5.out
      · rw [List.length_map, List.map_map]; exact HT5.out
    · have hk1 : (k == 1) = false := by simpa using hk
      have hk2 : (k == 2) = true := by have : k = 2 := by omega
                                       simp [this]
      obtain ⟨qs, hqs⟩ : ∃ qs, qs = dropP ps key := ⟨_, rfl⟩
      have hT : dropT k s r ks vs key = (⟨k, s, r, qs.map Prod.fst, qs.map Prod.snd, 0⟩, true) := by unfold dropT; rw [if_pos hok, ← hps, hlk, if_pos rfl, if_neg hk, hqs]
      have hql : qs.length ≤ 1048576 := by have : (dropP ps key).length ≤ ps.length := List.length_filter_le _ _; rw [hqs]; omega
      have HT := hid hT
      have HQS := hid hqs
      have HQL := hid hql
      clear hT hlk hps hsh hOK hqs hql hk
      go_enter Try.func21, Try.ntmps21
      go_wp2_with fail
      have bR0 : Box5 ((w.alloc (.cells #[.int .i64 k, .int .i64 s, .int .i64 r, .slice a ks.length c, .slice b vs.length d] 28)).alloc (.cells #[.int .i64 0, .int .i64 0, .int .i64 0, .slice none 0 0, .slice none 0 0] 28)) (w.heap.size + 1) 0 0 0 (.slice none 0 0) (.slice none 0 0) := by have := World.alloc_heap_new (w.alloc (.cells #[.int .i64 k, .int .i64 s, .int .i64 r, .slice a ks.length c, .slice b vs.length d] 28)) (.cells #[.int .i64 0, .int .i64 0, .int .i64 0, .slice none 0 0, .slice none 0 0] 28); simpa [Box5] using this
      refine (f12b k s r ks vs a b c d _ (ArgI.below HA.out (c0 _ _) (Nat.le_refl _)) (ArgS.below HB.out (c0 _ _) (Nat.le_refl _)) hc hkm hvm).mono ?_
      rw [hok]
      rintro e w1 ⟨rfl, hb1⟩
      obtain ⟨hc1, hf1⟩ := bcell hb1
      have z1 := hb1.size
      simp only [World.size_alloc] at z1
      have x1 : w.heap.size < w1.heap.size := by omega
      have c1 : Below w.heap.size w w1 := (c0 _ _).trans (hb1.mono (by simp; omega))
      have bR1 := Box5.below bR0 hb1 (by simp)
      go_wp2_with fail
      refine (f46 k s r ks vs a b c d _ (ArgI.below HA.out c1 (Nat.le_refl _)) (ArgS.below HB.out c1 (Nat.le_refl _)) HSH.out.1 hk8).mono ?_
      rintro e w2 ⟨v, rfl, hown, hb2⟩
      have hpl : (ks.zip vs).length ≤ 1048576 := by simp; omega
      rw [← HPS.out] at hown hpl
      obtain ⟨a2, cap2, rfl, hP⟩ := own_argP hown
      have HP := hid hP
      have HPL := hid hpl
      clear hP hown hpl
      obtain ⟨hc2, hf2⟩ := bcell hb2
      have z2 := hb2.size
      have x2 : w.heap.size < w2.heap.size := by omega
      have c2 : Below w.heap.size w w2 := c1.trans (hb2.mono (by omega))
      have bR2 := Box5.below bR1 hb2 (by omega)
      go_wp2_with fail
      refine (f47 a2 cap2 ps key HPL.out w2 HP.out).mono ?_
      rw [HLK.out]
      rintro e w3 ⟨rfl, hb3⟩
      obtain ⟨hc3, hf3⟩ := bcell hb3
      have z3 := hb3.size
      have x3 : w.heap.size < w3.heap.size := by omega
      have c3 : Below w.heap.size w w3 := c2.trans (hb3.mono (by omega))
      have bR3 := Box5.below bR2 hb3 (by omega)
      go_wp2_with fail
      refine (f53 a2 cap2 ps key HPL.out w3 (ArgP.lift HP.out hb3)).mono ?_
      rintro e w5 ⟨v5, rfl, hown5, hb5⟩
      rw [← HQS.out] at hown5
      obtain ⟨a5, cap5, rfl, hP5⟩ := own_argP hown5
      have HP5q := hid hP5
      clear hP5 hown5
      obtain ⟨hc5, hf5⟩ := bcell hb5
      have z5 := hb5.size
      have x5 : w.heap.size < w5.heap.size := by omega
      have c5 : Below w.heap.size w w5 := c3.trans (hb5.mono (by omega))
      have bR5 := Box5.below bR3 hb5 (by omega)
      go_wp2_with fail
      refine (f40 k s r a b ks.length vs.length c d a5 cap5 qs HQL.out w5 HP5q.out).mono ?_
      rintro e w6 ⟨v6, u6, rfl, r60, t60, hb6⟩
      have r6 := own_mono r60 (show w.heap.size ≤ w5.heap.size by omega)
      have t6 := own_mono t60 (show w.heap.size ≤ w5.heap.size by omega)
      obtain ⟨a6, cap6, rfl⟩ := own_slice r6
      obtain ⟨a7, cap7, rfl⟩ := own_slice t6
      clear r60 t60
      obtain ⟨hc6, hf6⟩ := bcell hb6
      have z6 := hb6.size
      have x6 : w.heap.size < w6.heap.size := by omega
      have c6 : Below w.heap.size w w6 := c5.trans (hb6.mono (by omega))
      have bR6 := Box5.below bR5 hb6 (by omega)
      obtain ⟨q0, q1, q2, q3, q4⟩ := Box5.cells bR6
      have hfr := Box5.frozen bR6
      have R5 := row_st5 bR6 (by decide) r6 (k' := k) (s' := s) (r' := r) (v' := .slice a6 qs.length cap6) (u' := .slice a7 qs.length cap7)
      have T5 := row_st5 bR6 (by decide) t6 (k' := k) (s' := s) (r' := r) (v' := .slice a6 qs.length cap6) (u' := .slice a7 qs.length cap7)
      have B5 := st5_below (w.heap.size + 1) k s r (.slice a6 qs.length cap6) (.slice a7 qs.length cap7) c6 (by omega)
      have P5 := Box5.cells (Box5.st5 bR6 (k' := k) (s' := s) (r' := r) (v' := .slice a6 qs.length cap6) (u' := .slice a7 qs.length cap7))
      have HR5 := hid R5
      have HT5 := hid T5
      have HB5 := hid B5
      have HP5 := hid P5
      clear R5 T5 B5 P5 r6 t6
      go_wp2_with fail
      obtain ⟨p0, p1, p2, p3, p4⟩ := HP5.out
      unfold st5 at p0 p1 p2 p3 p4
      refine bodyPost_ret (v := .tuple #[.agg #[.int .i64 k, .int .i64 s, .int .i64 r, .slice a6 qs.length cap6, .slice a7 qs.length cap7], .bool true]) (by simp [results, Try.results21, go_sem, p0, p1, p2, p3, p4]) rfl ?_
      rw [HT.out]
      dsimp only
      refine ⟨_, rfl, ⟨_, _, rfl, ?_, ?_⟩, HB5.out⟩
      · rw [List.length_map, List.map_map]; exact HR5.out
      · rw [List.length_map, List.map_map]; exact HT5.out

end Go.Proofs.Ytahbicegmioplaa
