/- TablePut of the program. -/
import Derived.Test.YtahbicegmioplaaTZ
namespace Go.Proofs.Ytahbicegmioplaa
open Go.RowKit
set_option linter.unusedSimpArgs false
set_option linter.unusedVariables false

theorem Box5.below {w w' : World} {B n : Nat} {k s r : Int} {v u : Value} (h : Box5 w B k s r v u) (hb : Below n w w') (hB : B < n) : Box5 w' B k s r v u := (hb.block B hB).trans h
theorem ArgP.lift {w w' : World} {a : Option Addr} {ps : List Pr} (h : ArgP w.heap.size w a ps) (hb : Below w.heap.size w w') : ArgP w'.heap.size w' a ps := by
  rcases h.below hb with h | ⟨b, p, rfl, hlt, hr⟩
  · exact .inl h
  · exact .inr ⟨b, p, rfl, by have := hb.size; omega, hr⟩
theorem putP_length (ps : List Pr) (key : Int) (val : ByteArray) : (putP ps key val).length ≤ ps.length + 1 := by
  unfold putP
  split <;> simp [putO]
theorem ints_zip {ks : List Int} {vs : List ByteArray} (h : ks.length = vs.length) : intsOf (ks.zip vs) = ks.map (.int .i64) := by
  have e : intsOf (ks.zip vs) = ((ks.zip vs).map Prod.fst).map (.int .i64) := by simp [intsOf]
  rw [e, List.map_fst_zip (by omega)]
theorem strs_zip {ks : List Int} {vs : List ByteArray} (h : ks.length = vs.length) : strsOf (ks.zip vs) = vs.map .string := by
  have e : strsOf (ks.zip vs) = ((ks.zip vs).map Prod.snd).map .string := by simp [strsOf]
  rw [e, List.map_snd_zip (by omega)]

set_option maxRecDepth 100000 in
set_option maxHeartbeats 4000000 in
theorem f21 (k s r : Int) (ks : List Int) (vs : List ByteArray) (a b : Option Addr) (c d : Nat) (key : Int) (val : ByteArray) (w : World) (hA : ArgI w a ks) (hB : ArgS w b vs) (hc : ks.length ≤ c) (hkm : ks.length ≤ 1048576) (hvm : vs.length ≤ 1048576) (hval : val.size ≤ 1048576) :
    Calls Try.prog 16 #[.agg #[.int .i64 k, .int .i64 s, .int .i64 r, .slice a ks.length c, .slice b vs.length d], .int .i64 key, .string val] w fun e w' => ∃ V, e = .returned (.tuple #[V, .int .i64 (putT k s r ks vs key val).code]) ∧ Tab w.heap.size w' (putT k s r ks vs key val).k (putT k s r ks vs key val).s (putT k s r ks vs key val).r (putT k s r ks vs key val).ks (putT k s r ks vs key val).vs V ∧ Below w.heap.size w w' := by
  have c0 : ∀ X Y, Below w.heap.size w ((w.alloc X).alloc Y) := fun X Y => ((Below.refl _ _).alloc (Nat.le_refl _) _).alloc (by simp) _
  have HA : Hid (ArgI w a ks) := hA
  have HB : Hid (ArgS w b vs) := hB
  clear hA hB
  cases hok : okB k s r ks vs
  case false =>
    have hT : putT k s r ks vs key val = ⟨0, 0, 0, [], [], 1⟩ := by unfold putT; rw [hok, if_neg (by simp)]
    have HT : Hid _ := hT
    clear hT
    go_enter Try.func16, Try.ntmps16
    go_wp2_with fail
    have bR0 : Box5 ((w.alloc (.cells #[.int .i64 k, .int .i64 s, .int .i64 r, .slice a ks.length c, .slice b vs.length d] 28)).alloc (.cells #[.int .i64 0, .int .i64 0, .int .i64 0, .slice none 0 0, .slice none 0 0] 28)) (w.heap.size + 1) 0 0 0 (.slice none 0 0) (.slice none 0 0) := by have := World.alloc_heap_new (w.alloc (.cells #[.int .i64 k, .int .i64 s, .int .i64 r, .slice a ks.length c, .slice b vs.length d] 28)) (.cells #[.int .i64 0, .int .i64 0, .int .i64 0, .slice none 0 0, .slice none 0 0] 28); simpa [Box5] using this
    refine (f12b k s r ks vs a b c d _ (ArgI.below HA.out (c0 _ _) (Nat.le_refl _)) (ArgS.below HB.out (c0 _ _) (Nat.le_refl _)) hc hkm hvm).mono ?_
    rw [hok]
    rintro e w1 ⟨rfl, hb1⟩
    have z1 := hb1.size
    simp only [World.size_alloc] at z1
    have c1 : Below w.heap.size w w1 := (c0 _ _).trans (hb1.mono (by simp; omega))
    have bR1 := Box5.below bR0 hb1 (by simp)
    obtain ⟨q0, q1, q2, q3, q4⟩ := Box5.cells bR1
    have hfr := Box5.frozen bR1
    have B5 := st5_below (w.heap.size + 1) 0 0 0 (.slice none 0 0) (.slice none 0 0) c1 (by omega)
    have P5 := Box5.cells (Box5.st5 bR1 (k' := 0) (s' := 0) (r' := 0) (v' := .slice none 0 0) (u' := .slice none 0 0))
    have HB5 : Hid _ := B5
    have HP5 : Hid _ := P5
    clear B5 P5
    go_wp2_with fail
    obtain ⟨p0, p1, p2, p3, p4⟩ := HP5.out
    unfold st5 at p0 p1 p2 p3 p4
    refine bodyPost_ret (v := .tuple #[.agg #[.int .i64 0, .int .i64 0, .int .i64 0, .slice none 0 0, .slice none 0 0], .int .i64 1]) (by simp [results, Try.results16, go_sem, p0, p1, p2, p3, p4]) rfl ?_
    rw [HT.out]
    exact ⟨_, rfl, Tab.nil _ _ _ _ _, HB5.out⟩
  have hsh := shape2_len (okB_true.1 hok).shape
  have HSH : Hid _ := hsh
  have hk8 : ks.length ≤ 8 := by omega
  clear hsh
  obtain ⟨co, hco⟩ : ∃ co, co = codeI k s r ks key val := ⟨_, rfl⟩
  by_cases hz : co = 0
  · subst hz
    have hT : putT k s r ks vs key val = ⟨k, s, r, (putP (ks.zip vs) key val).map Prod.fst, (putP (ks.zip vs) key val).map Prod.snd, 0⟩ := by unfold putT; rw [hok, if_pos rfl, if_pos hco.symm]
    have HT : Hid _ := hT
    have HCO : Hid (0 = codeI k s r ks key val) := hco
    clear hT hco
    go_enter Try.func16, Try.ntmps16
    go_wp2_with fail
    have bR0 : Box5 ((w.alloc (.cells #[.int .i64 k, .int .i64 s, .int .i64 r, .slice a ks.length c, .slice b vs.length d] 28)).alloc (.cells #[.int .i64 0, .int .i64 0, .int .i64 0, .slice none 0 0, .slice none 0 0] 28)) (w.heap.size + 1) 0 0 0 (.slice none 0 0) (.slice none 0 0) := by have := World.alloc_heap_new (w.alloc (.cells #[.int .i64 k, .int .i64 s, .int .i64 r, .slice a ks.length c, .slice b vs.length d] 28)) (.cells #[.int .i64 0, .int .i64 0, .int .i64 0, .slice none 0 0, .slice none 0 0] 28); simpa [Box5] using this
    refine (f12b k s r ks vs a b c d _ (ArgI.below HA.out (c0 _ _) (Nat.le_refl _)) (ArgS.below HB.out (c0 _ _) (Nat.le_refl _)) hc hkm hvm).mono ?_
    rw [hok]
    rintro e w1 ⟨rfl, hb1⟩
    obtain ⟨hc1, hf1⟩ := bcell hb1
    have z1 := hb1.size
    simp only [World.size_alloc] at z1
    have x1 : w.heap.size < w1.heap.size := by omega
    have c1 : Below w.heap.size w w1 := (c0 _ _).trans (hb1.mono (by simp; omega))
    have bR1 := Box5.below bR0 hb1 (by simp)
    go_wp2_with fail
    refine (f46 k s r ks vs a b c d _ (ArgI.below HA.out c1 (Nat.le_refl _)) (ArgS.below HB.out c1 (Nat.le_refl _)) HSH.out.1 hk8).mono ?_
    rintro e w2 ⟨v, rfl, hown, hb2⟩
    have hpl : (ks.zip vs).length ≤ 1048576 := by simp; omega
    obtain ⟨ps, hps⟩ : ∃ ps, ps = ks.zip vs := ⟨_, rfl⟩
    rw [← hps] at hown hpl
    have HPS : Hid _ := hps
    clear hps
    obtain ⟨a2, cap2, rfl, hP⟩ := own_argP hown
    have HP : Hid (ArgP w2.heap.size w2 a2 ps) := hP
    have HPL : Hid (ps.length ≤ 1048576) := hpl
    have hql : (putP ps key val).length ≤ 1048576 := by
      have : ps.length ≤ 8 := by rw [HPS.out]; simp; omega
      have := putP_length ps key val
      omega
    have HQL : Hid _ := hql
    clear hP hown hpl hql
    obtain ⟨hc2, hf2⟩ := bcell hb2
    have z2 := hb2.size
    have x2 : w.heap.size < w2.heap.size := by omega
    have c2 : Below w.heap.size w w2 := c1.trans (hb2.mono (by omega))
    have bR2 := Box5.below bR1 hb2 (by omega)
    go_wp2_with fail
    refine (f51 k s r ks vs a b c d key val _ (ArgI.below HA.out c2 (Nat.le_refl _)) hkm hval).mono ?_
    rw [← HCO.out]
    rintro e w3 ⟨rfl, hb3⟩
    obtain ⟨hc3, hf3⟩ := bcell hb3
    have z3 := hb3.size
    have x3 : w.heap.size < w3.heap.size := by omega
    have c3 : Below w.heap.size w w3 := c2.trans (hb3.mono (by omega))
    have bR3 := Box5.below bR2 hb3 (by omega)
    go_wp2_with fail
    refine (f38 a2 cap2 ps key val HPL.out w3 (ArgP.lift HP.out hb3)).mono ?_
    rintro e w4 ⟨v4, rfl, hown4, hb4⟩
    have hpl4 : (putP ps key val).length ≤ 1048576 := HQL.out
    obtain ⟨qs, hqs⟩ : ∃ qs, qs = putP ps key val := ⟨_, rfl⟩
    rw [← hqs] at hown4 hpl4
    have HQS : Hid _ := hqs
    clear hqs
    obtain ⟨a4, cap4, rfl, hP4⟩ := own_argP hown4
    have HP4 : Hid _ := hP4
    have HPL4 : Hid _ := hpl4
    clear hP4 hown4 hpl4
    obtain ⟨hc4, hf4⟩ := bcell hb4
    have z4 := hb4.size
    have x4 : w.heap.size < w4.heap.size := by omega
    have c4 : Below w.heap.size w w4 := c3.trans (hb4.mono (by omega))
    have bR4 := Box5.below bR3 hb4 (by omega)
    go_wp2_with fail
    refine (f40 k s r a b ks.length vs.length c d a4 cap4 qs HPL4.out w4 HP4.out).mono ?_
    rintro e w5 ⟨v5, u5, rfl, r5, t5, hb5⟩
    obtain ⟨a5, cap5, rfl⟩ := own_slice r5
    obtain ⟨a6, cap6, rfl⟩ := own_slice t5
    obtain ⟨hc5, hf5⟩ := bcell hb5
    have z5 := hb5.size
    have x5 : w.heap.size < w5.heap.size := by omega
    have c5 : Below w.heap.size w w5 := c4.trans (hb5.mono (by omega))
    have bR5 := Box5.below bR4 hb5 (by omega)
    obtain ⟨q0, q1, q2, q3, q4⟩ := Box5.cells bR5
    have hfr := Box5.frozen bR5
    have R5 := row_st5 bR5 (by decide) r5 (k' := k) (s' := s) (r' := r) (v' := .slice a5 qs.length cap5) (u' := .slice a6 qs.length cap6)
    have T5 := row_st5 bR5 (by decide) t5 (k' := k) (s' := s) (r' := r) (v' := .slice a5 qs.length cap5) (u' := .slice a6 qs.length cap6)
    have B5 := st5_below (w.heap.size + 1) k s r (.slice a5 qs.length cap5) (.slice a6 qs.length cap6) c5 (by omega)
    have P5 := Box5.cells (Box5.st5 bR5 (k' := k) (s' := s) (r' := r) (v' := .slice a5 qs.length cap5) (u' := .slice a6 qs.length cap6))
    have HR5 : Hid _ := R5
    have HT5 : Hid _ := T5
    have HB5 : Hid _ := B5
    have HP5 : Hid _ := P5
    clear R5 T5 B5 P5 r5 t5
    go_wp2_with fail
    obtain ⟨p0, p1, p2, p3, p4⟩ := HP5.out
    unfold st5 at p0 p1 p2 p3 p4
    refine bodyPost_ret (v := .tuple #[.agg #[.int .i64 k, .int .i64 s, .int .i64 r, .slice a5 qs.length cap5, .slice a6 qs.length cap6], .int .i64 0]) (by simp [results, Try.results16, go_sem, p0, p1, p2, p3, p4]) rfl ?_
    rw [HT.out]
    refine ⟨_, rfl, ⟨_, _, rfl, ?_, ?_⟩, HB5.out⟩
    · rw [← HPS.out, ← HQS.out, List.length_map, List.map_map]; exact own_mono HR5.out (Nat.le_of_lt x4)


    · rw [← HPS.out, ← HQS.out, List.length_map, List.map_map]; exact own_mono HT5.out (Nat.le_of_lt x4)
  · have hT : putT k s r ks vs key val = ⟨k, s, r, ks, vs, co⟩ := by unfold putT; rw [hok, if_pos rfl, if_neg (by rw [← hco]; exact hz), ← hco]
    have HT : Hid _ := hT
    have HCO : Hid (co = codeI k s r ks key val) := hco
    have hz' : (co == 0) = false := by simpa using hz
    clear hT hco hz
    go_enter Try.func16, Try.ntmps16
    go_wp2_with fail
    have bR0 : Box5 ((w.alloc (.cells #[.int .i64 k, .int .i64 s, .int .i64 r, .slice a ks.length c, .slice b vs.length d] 28)).alloc (.cells #[.int .i64 0, .int .i64 0, .int .i64 0, .slice none 0 0, .slice none 0 0] 28)) (w.heap.size + 1) 0 0 0 (.slice none 0 0) (.slice none 0 0) := by have := World.alloc_heap_new (w.alloc (.cells #[.int .i64 k, .int .i64 s, .int .i64 r, .slice a ks.length c, .slice b vs.length d] 28)) (.cells #[.int .i64 0, .int .i64 0, .int .i64 0, .slice none 0 0, .slice none 0 0] 28); simpa [Box5] using this
    refine (f12b k s r ks vs a b c d _ (ArgI.below HA.out (c0 _ _) (Nat.le_refl _)) (ArgS.below HB.out (c0 _ _) (Nat.le_refl _)) hc hkm hvm).mono ?_
    rw [hok]
    rintro e w1 ⟨rfl, hb1⟩
    obtain ⟨hc1, hf1⟩ := bcell hb1
    have z1 := hb1.size
    simp only [World.size_alloc] at z1
    have x1 : w.heap.size < w1.heap.size := by omega
    have c1 : Below w.heap.size w w1 := (c0 _ _).trans (hb1.mono (by simp; omega))
    have bR1 := Box5.below bR0 hb1 (by simp)
    go_wp2_with fail
    refine (f46 k s r ks vs a b c d _ (ArgI.below HA.out c1 (Nat.le_refl _)) (ArgS.below HB.out c1 (Nat.le_refl _)) HSH.out.1 hk8).mono ?_
    rintro e w2 ⟨v, rfl, hown, hb2⟩
    have hpl : (ks.zip vs).length ≤ 1048576 := by simp; omega
    obtain ⟨ps, hps⟩ : ∃ ps, ps = ks.zip vs := ⟨_, rfl⟩
    rw [← hps] at hown hpl
    have HPS : Hid _ := hps
    clear hps
    obtain ⟨a2, cap2, rfl, hP⟩ := own_argP hown
    have HP : Hid (ArgP w2.heap.size w2 a2 ps) := hP
    have HPL : Hid (ps.length ≤ 1048576) := hpl
    have hql : (putP ps key val).length ≤ 1048576 := by
      have : ps.length ≤ 8 := by rw [HPS.out]; simp; omega
      have := putP_length ps key val
      omega
    have HQL : Hid _ := hql
    clear hP hown hpl hql
    obtain ⟨hc2, hf2⟩ := bcell hb2
    have z2 := hb2.size
    have x2 : w.heap.size < w2.heap.size := by omega
    have c2 : Below w.heap.size w w2 := c1.trans (hb2.mono (by omega))
    have bR2 := Box5.below bR1 hb2 (by omega)
    go_wp2_with fail
    refine (f51 k s r ks vs a b c d key val _ (ArgI.below HA.out c2 (Nat.le_refl _)) hkm hval).mono ?_
    rw [← HCO.out]
    rintro e w3 ⟨rfl, hb3⟩
    obtain ⟨hc3, hf3⟩ := bcell hb3
    have z3 := hb3.size
    have x3 : w.heap.size < w3.heap.size := by omega
    have c3 : Below w.heap.size w w3 := c2.trans (hb3.mono (by omega))
    have bR3 := Box5.below bR2 hb3 (by omega)
    obtain ⟨w4, e4⟩ : ∃ w4, w4 = w3 := ⟨_, rfl⟩
    go_wp2_with fail
    refine (f40 k s r a b ks.length vs.length c d a2 cap2 ps HPL.out w3 (ArgP.lift HP.out hb3)).mono ?_
    rintro e w5 ⟨v5, u5, rfl, r5, t5, hb5⟩
    obtain ⟨a5, cap5, rfl⟩ := own_slice r5
    obtain ⟨a6, cap6, rfl⟩ := own_slice t5
    obtain ⟨hc5, hf5⟩ := bcell hb5
    have z5 := hb5.size
    have x5 : w.heap.size < w5.heap.size := by omega
    have c5 : Below w.heap.size w w5 := c3.trans (hb5.mono (by omega))
    have bR5 := Box5.below bR3 hb5 (by omega)
    obtain ⟨q0, q1, q2, q3, q4⟩ := Box5.cells bR5
    have hfr := Box5.frozen bR5
    have R5 := row_st5 bR5 (by decide) r5 (k' := k) (s' := s) (r' := r) (v' := .slice a5 ps.length cap5) (u' := .slice a6 ps.length cap6)
    have T5 := row_st5 bR5 (by decide) t5 (k' := k) (s' := s) (r' := r) (v' := .slice a5 ps.length cap5) (u' := .slice a6 ps.length cap6)
    have B5 := st5_below (w.heap.size + 1) k s r (.slice a5 ps.length cap5) (.slice a6 ps.length cap6) c5 (by omega)
    have P5 := Box5.cells (Box5.st5 bR5 (k' := k) (s' := s) (r' := r) (v' := .slice a5 ps.length cap5) (u' := .slice a6 ps.length cap6))
    have HR5 : Hid _ := R5
    have HT5 : Hid _ := T5
    have HB5 : Hid _ := B5
    have HP5 : Hid _ := P5
    clear R5 T5 B5 P5 r5 t5
    go_wp2_with fail
    obtain ⟨p0, p1, p2, p3, p4⟩ := HP5.out
    unfold st5 at p0 p1 p2 p3 p4
    refine bodyPost_ret (v := .tuple #[.agg #[.int .i64 k, .int .i64 s, .int .i64 r, .slice a5 ps.length cap5, .slice a6 ps.length cap6], .int .i64 co]) (by simp [results, Try.results16, go_sem, p0, p1, p2, p3, p4]) rfl ?_
    rw [HT.out]
    refine ⟨_, rfl, ⟨_, _, rfl, ?_, ?_⟩, HB5.out⟩
    · have := own_mono HR5.out (Nat.le_of_lt x3)
      rw [HPS.out, ints_zip HSH.out.1] at this
      simpa [st5, HPS.out, HSH.out.1] using this
    · have := own_mono HT5.out (Nat.le_of_lt x3)
      rw [HPS.out, strs_zip HSH.out.1] at this
      simpa [st5, HPS.out, HSH.out.1] using this

end Go.Proofs.Ytahbicegmioplaa
