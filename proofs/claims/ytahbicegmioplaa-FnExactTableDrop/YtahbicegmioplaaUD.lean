/- TablePut of the specification. -/
import Derived.Test.YtahbicegmioplaaUC
namespace Go.Proofs.Ytahbicegmioplaa
open Go.RowKit
set_option linter.unusedSimpArgs false
set_option linter.unusedVariables false

theorem putO_fst (ps : List Pr) (key : Int) (val : ByteArray) : (putO ps key val).map Prod.fst = ps.map Prod.fst := by
  simp only [putO, List.map_map]
  refine List.map_congr_left fun x _ => ?_
  simp only [Function.comp]
  split <;> rfl
theorem putO_snd {ks : List Int} {vs : List ByteArray} {key : Int} {val : ByteArray} {i : Nat} (hl : ks.length = vs.length) (hi : i < ks.length) (he : (ks[i] == key) = true) (hn : ∀ j (h : j < ks.length), j ≠ i → (ks[j] == key) = false) : (putO (ks.zip vs) key val).map Prod.snd = vs.set i val := by
  refine List.ext_getElem (by simp [putO]; omega) fun j h1 h2 => ?_
  simp only [putO, List.length_map, List.length_zip] at h1
  rw [List.getElem_set]
  simp only [putO, List.getElem_map, List.getElem_zip]
  by_cases e : i = j
  · subst e; rw [if_pos he, if_pos rfl]
  · rw [if_neg e, if_neg (by rw [hn j (by omega) (fun e' => e e'.symm)]; simp)]
theorem putO_none {ps : List Pr} {key : Int} {val : ByteArray} (h : ∀ x ∈ ps, (x.1 == key) = false) : putO ps key val = ps := by
  unfold putO
  conv => rhs; rw [← List.map_id ps]
  refine List.map_congr_left fun x hx => ?_
  rw [h x hx]; simp
theorem putL_eq {k s r : Int} {ks : List Int} {vs : List ByteArray} {key : Int} {val : ByteArray} (hok : okB k s r ks vs = true) (hf : ¬ (inB key 0 4294967295 = false ∨ (val.size : Int) ≠ s)) : putL k s r ks vs key val = putT k s r ks vs key val := by
  have h := okB_true.1 hok
  obtain ⟨hl, hle, _⟩ := shape2_len h.shape
  unfold putT
  rw [if_pos hok]
  rcases atI_cases ks key with ⟨hat, hno⟩ | ⟨i, hi, hat, hthere, hno⟩
  · have hmem : ¬ key ∈ ks := fun hm => by
      obtain ⟨j, hj, e⟩ := List.getElem_of_mem hm
      have := hno j hj
      simp [e] at this
    have hz : ∀ x ∈ ks.zip vs, (x.1 == key) = false := fun x hx => by
      obtain ⟨j, hj, e⟩ := List.getElem_of_mem (List.of_mem_zip hx).1
      rw [← e]; exact hno j hj
    have hany : anyK (ks.zip vs) key = false := by simp only [anyK]; rw [List.any_eq_false]; intro x hx; simp [hz x hx]
    unfold putL codeI
    rw [hat, if_neg (by omega), if_neg hf, if_neg hmem]
    by_cases hk : k = 1
    · rw [if_pos hk, if_pos hk, if_neg (by omega)]
    · rw [if_neg hk, if_neg hk]
      by_cases hr : (ks.length : Int) = r
      · rw [if_pos hr, if_pos (by omega), if_neg (by omega)]
      · rw [if_neg hr, if_neg (by omega), if_pos rfl]
        unfold putP
        rw [hany, if_neg (by simp), putO_none hz]
        simp [List.map_fst_zip (show ks.length ≤ vs.length by omega), List.map_snd_zip (show vs.length ≤ ks.length by omega)]
  · have hmem : key ∈ ks := by have := List.getElem_mem hi; simp at hthere; rw [hthere] at this; exact this
    have huniq : ∀ j (h : j < ks.length), j ≠ i → (ks[j] == key) = false := by
      intro j hj hne
      have e : ks[i] = key := by simpa using hthere
      rw [← e]
      by_cases hji : j < i
      · have := h.good.once i hi hi j hji; simpa using this
      · have := h.good.once j hj hj i (by omega); simpa using fun e' => this e'.symm
    have hany : anyK (ks.zip vs) key = true := by
      simp only [anyK]
      rw [List.any_eq_true]
      exact ⟨(ks[i], vs[i]'(by omega)), by rw [← List.getElem_zip (h := by simp; omega)]; exact List.getElem_mem _, hthere⟩
    unfold putL codeI
    rw [hat, if_pos (by omega), if_neg hf, if_pos hmem, if_pos rfl]
    unfold putP
    rw [hany, if_pos rfl, putO_fst, List.map_fst_zip (by omega), putO_snd hl hi hthere huniq]
    simp

set_option maxRecDepth 100000 in
set_option maxHeartbeats 4000000 in
theorem f20 (k s r : Int) (ks : List Int) (vs : List ByteArray) (g1 g2 c d : Nat) (key : Int) (val : ByteArray) (w : World) (hI : IntRow w g1 0 ks) (hS : StrRow w g2 0 vs) (l1 : g1 < w.heap.size) (l2 : g2 < w.heap.size) (hkm : ks.length ≤ 1048576) (hvm : vs.length ≤ 1048576) (hval : val.size ≤ 1048576) :
    Calls Try.prog 17 #[.agg #[.int .i64 k, .int .i64 s, .int .i64 r, .slice (some ⟨g1, 0, none⟩) ks.length c, .slice (some ⟨g2, 0, none⟩) vs.length d], .int .i64 key, .string val] w fun e w' => ∃ V, e = .returned (.tuple #[V, .int .i64 (putT k s r ks vs key val).code]) ∧ Tab w.heap.size w' (putT k s r ks vs key val).k (putT k s r ks vs key val).s (putT k s r ks vs key val).r (putT k s r ks vs key val).ks (putT k s r ks vs key val).vs V ∧ Below w.heap.size w w' := by
  have hvl : val.size ≤ maxLen := by unfold maxLen; omega
  have hA : ArgI w (some ⟨g1, 0, none⟩) ks := .inr ⟨g1, 0, rfl, l1, hI⟩
  have hB : ArgS w (some ⟨g2, 0, none⟩) vs := .inr ⟨g2, 0, rfl, l2, hS⟩
  have HA := hid hA
  have HB := hid hB
  have HI := hid hI
  have HS := hid hS
  clear hA hB hI hS
  have c2 : Below w.heap.size w ((w.alloc (.cells #[.int .i64 k, .int .i64 s, .int .i64 r, .slice (some ⟨g1, 0, none⟩) ks.length c, .slice (some ⟨g2, 0, none⟩) vs.length d] 28)).alloc (.cells #[.int .i64 0, .int .i64 0, .int .i64 0, .slice none 0 0, .slice none 0 0] 28)) := ((Below.refl _ w).alloc (Nat.le_refl _) _).alloc (by simp) _
  have bR : Box5 ((w.alloc (.cells #[.int .i64 k, .int .i64 s, .int .i64 r, .slice (some ⟨g1, 0, none⟩) ks.length c, .slice (some ⟨g2, 0, none⟩) vs.length d] 28)).alloc (.cells #[.int .i64 0, .int .i64 0, .int .i64 0, .slice none 0 0, .slice none 0 0] 28)) (w.heap.size + 1) 0 0 0 (.slice none 0 0) (.slice none 0 0) := by have := World.alloc_heap_new (w.alloc (.cells #[.int .i64 k, .int .i64 s, .int .i64 r, .slice (some ⟨g1, 0, none⟩) ks.length c, .slice (some ⟨g2, 0, none⟩) vs.length d] 28)) (.cells #[.int .i64 0, .int .i64 0, .int .i64 0, .slice none 0 0, .slice none 0 0] 28); simpa [Box5] using this
  have bT : Box5 ((w.alloc (.cells #[.int .i64 k, .int .i64 s, .int .i64 r, .slice (some ⟨g1, 0, none⟩) ks.length c, .slice (some ⟨g2, 0, none⟩) vs.length d] 28)).alloc (.cells #[.int .i64 0, .int .i64 0, .int .i64 0, .slice none 0 0, .slice none 0 0] 28)) w.heap.size k s r (.slice (some ⟨g1, 0, none⟩) ks.length c) (.slice (some ⟨g2, 0, none⟩) vs.length d) := by
    have := World.alloc_heap_new w (.cells #[.int .i64 k, .int .i64 s, .int .i64 r, .slice (some ⟨g1, 0, none⟩) ks.length c, .slice (some ⟨g2, 0, none⟩) vs.length d] 28)
    have h1 : Box5 (w.alloc (.cells #[.int .i64 k, .int .i64 s, .int .i64 r, .slice (some ⟨g1, 0, none⟩) ks.length c, .slice (some ⟨g2, 0, none⟩) vs.length d] 28)) w.heap.size k s r (.slice (some ⟨g1, 0, none⟩) ks.length c) (.slice (some ⟨g2, 0, none⟩) vs.length d) := this
    exact Box5.kept h1 (World.grownBy_alloc _ _ none) (by simp)
  have HBR := hid bR
  have HBT := hid bT
  have HC2 := hid c2
  clear bR bT c2
  cases hok : okB k s r ks vs
  case false =>
    have hT : putT k s r ks vs key val = ⟨0, 0, 0, [], [], 1⟩ := by unfold putT; rw [hok, if_neg (by simp)]
    have HT := hid hT
    clear hT
    go_enter Try.func17, Try.ntmps17
    go_wp2_with fail
    refine (f28b k s r ks vs _ _ c d _ (ArgI.below HA.out HC2.out (Nat.le_refl _)) (ArgS.below HB.out HC2.out (Nat.le_refl _))).mono ?_
    rw [hok]
    rintro e w1 ⟨rfl, hb1⟩
    have bR1 := Box5.below HBR.out hb1 (by simp)
    have bT1 := Box5.below HBT.out hb1 (by simp; omega)
    have c1 : Below w.heap.size w w1 := HC2.out.trans (hb1.mono (by simp; omega))
    have z1 := hb1.size
    simp only [World.size_alloc] at z1
    have x1 : w.heap.size < w1.heap.size := by omega
    have x2 : w.heap.size + 1 < w1.heap.size := by omega
    obtain ⟨t0, t1, t2, t3, t4⟩ := Box5.cells bT1
    clear hb1
    have B5 := st5_below (w.heap.size + 1) 0 0 0 (.slice none 0 0) (.slice none 0 0) c1 (by omega)
    have P5 := Box5.cells (Box5.st5 bR1 (k' := 0) (s' := 0) (r' := 0) (v' := .slice none 0 0) (u' := .slice none 0 0))
    obtain ⟨y0, y1, y2, y3, y4⟩ := Box5.cells bR1
    have fR := Box5.frozen bR1
    have HB5 := hid B5
    have HP5 := hid P5
    clear B5 P5
    go_wp2_with fail
    obtain ⟨p0, p1, p2, p3, p4⟩ := HP5.out
    unfold st5 at p0 p1 p2 p3 p4
    refine bodyPost_ret (v := .tuple #[.agg #[.int .i64 0, .int .i64 0, .int .i64 0, .slice none 0 0, .slice none 0 0], .int .i64 1]) (by simp [results, Try.results17, go_sem, p0, p1, p2, p3, p4]) rfl ?_
    rw [HT.out]
    exact ⟨_, rfl, Tab.nil _ _ _ _ _, HB5.out⟩
  have hsh := shape2_len (okB_true.1 hok).shape
  have HSH := hid hsh
  have hk8 : ks.length ≤ 8 := by omega
  clear hsh
  cases hnb : inB key 0 4294967295
  case false =>
    have hT : putT k s r ks vs key val = ⟨k, s, r, ks, vs, 1⟩ := by
      have e : codeI k s r ks key val = 1 := by unfold codeI; rw [if_pos (.inl hnb)]
      unfold putT; rw [hok, if_pos rfl, e, if_neg (by omega)]
    have HT := hid hT
    clear hT
    go_enter Try.func17, Try.ntmps17
    go_wp2_with fail
    refine (f28b k s r ks vs _ _ c d _ (ArgI.below HA.out HC2.out (Nat.le_refl _)) (ArgS.below HB.out HC2.out (Nat.le_refl _))).mono ?_
    rw [hok]
    rintro e w1 ⟨rfl, hb1⟩
    have bR1 := Box5.below HBR.out hb1 (by simp)
    have bT1 := Box5.below HBT.out hb1 (by simp; omega)
    have c1 : Below w.heap.size w w1 := HC2.out.trans (hb1.mono (by simp; omega))
    have z1 := hb1.size
    simp only [World.size_alloc] at z1
    have x1 : w.heap.size < w1.heap.size := by omega
    have x2 : w.heap.size + 1 < w1.heap.size := by omega
    obtain ⟨t0, t1, t2, t3, t4⟩ := Box5.cells bT1
    clear hb1
    go_wp2_with (first | (go_at_call 53; refine (f48 _).mono ?_; rintro e w' ⟨rfl, hw⟩; rw [hw]; clear hw w') | (go_at_call 40; refine (f36 _ _ _ _).mono ?_; rintro e w' ⟨rfl, hw⟩; rw [hw]; clear hw w'))
    refine (f49 k s r ks vs g1 g2 c d _ (IntRow.below HI.out c1 l1) (StrRow.below HS.out c1 l2) (by omega) (by omega) hkm hvm).mono ?_
    rintro e w2 ⟨V, rfl, htab, hb2⟩
    obtain ⟨va, ub, rfl, rI0, rS0⟩ := htab
    have bR2 := Box5.below bR1 hb2 (by omega)
    have c2' : Below w.heap.size w w2 := c1.trans (hb2.mono (by omega))
    have z2 := hb2.size
    have rI1 := own_mono rI0 (show w.heap.size ≤ w1.heap.size by omega)
    have rS1 := own_mono rS0 (show w.heap.size ≤ w1.heap.size by omega)
    have rI := rI1
    have rS := rS1
    clear rI0 rS0 rI1 rS1
    obtain ⟨a3, cap3, rfl⟩ := own_slice rI
    obtain ⟨a4, cap4, rfl⟩ := own_slice rS
    have R5 := row_st5 bR2 (by decide) rI (k' := k) (s' := s) (r' := r) (v' := .slice a3 ks.length cap3) (u' := .slice a4 vs.length cap4)
    have T5 := row_st5 bR2 (by decide) rS (k' := k) (s' := s) (r' := r) (v' := .slice a3 ks.length cap3) (u' := .slice a4 vs.length cap4)
    have B5 := st5_below (w.heap.size + 1) k s r (.slice a3 ks.length cap3) (.slice a4 vs.length cap4) c2' (by omega)
    have P5 := Box5.cells (Box5.st5 bR2 (k' := k) (s' := s) (r' := r) (v' := .slice a3 ks.length cap3) (u' := .slice a4 vs.length cap4))
    obtain ⟨y0, y1, y2, y3, y4⟩ := Box5.cells bR2
    have fR := Box5.frozen bR2
    have HR5 := hid R5
    have HT5 := hid T5
    have HB5 := hid B5
    have HP5 := hid P5
    clear R5 T5 B5 P5 rI rS
    go_wp2_with fail
    obtain ⟨p0, p1, p2, p3, p4⟩ := HP5.out
    unfold st5 at p0 p1 p2 p3 p4
    refine bodyPost_ret (v := .tuple #[.agg #[.int .i64 k, .int .i64 s, .int .i64 r, .slice a3 ks.length cap3, .slice a4 vs.length cap4], .int .i64 1]) (by simp [results, Try.results17, go_sem, p0, p1, p2, p3, p4]) rfl ?_
    rw [HT.out]
    exact ⟨_, rfl, ⟨_, _, rfl, HR5.out, HT5.out⟩, HB5.out⟩
  cases hsz : ((val.size : Int) != s)
  case true =>
    have hT : putT k s r ks vs key val = ⟨k, s, r, ks, vs, 1⟩ := by
      have e : codeI k s r ks key val = 1 := by unfold codeI; rw [if_pos (.inr (by simpa using hsz))]
      unfold putT; rw [hok, if_pos rfl, e, if_neg (by omega)]
    have HT := hid hT
    clear hT
    go_enter Try.func17, Try.ntmps17
    go_wp2_with fail
    refine (f28b k s r ks vs _ _ c d _ (ArgI.below HA.out HC2.out (Nat.le_refl _)) (ArgS.below HB.out HC2.out (Nat.le_refl _))).mono ?_
    rw [hok]
    rintro e w1 ⟨rfl, hb1⟩
    have bR1 := Box5.below HBR.out hb1 (by simp)
    have bT1 := Box5.below HBT.out hb1 (by simp; omega)
    have c1 : Below w.heap.size w w1 := HC2.out.trans (hb1.mono (by simp; omega))
    have z1 := hb1.size
    simp only [World.size_alloc] at z1
    have x1 : w.heap.size < w1.heap.size := by omega
    have x2 : w.heap.size + 1 < w1.heap.size := by omega
    obtain ⟨t0, t1, t2, t3, t4⟩ := Box5.cells bT1
    clear hb1
    go_wp2_with (first | (go_at_call 53; refine (f48 _).mono ?_; rintro e w' ⟨rfl, hw⟩; rw [hw]; clear hw w') | (go_at_call 40; refine (f36 _ _ _ _).mono ?_; rintro e w' ⟨rfl, hw⟩; rw [hw]; clear hw w'))
    refine (f49 k s r ks vs g1 g2 c d _ (IntRow.below HI.out c1 l1) (StrRow.below HS.out c1 l2) (by omega) (by omega) hkm hvm).mono ?_
    rintro e w2 ⟨V, rfl, htab, hb2⟩
    obtain ⟨va, ub, rfl, rI0, rS0⟩ := htab
    have bR2 := Box5.below bR1 hb2 (by omega)
    have c2' : Below w.heap.size w w2 := c1.trans (hb2.mono (by omega))
    have z2 := hb2.size
    have rI1 := own_mono rI0 (show w.heap.size ≤ w1.heap.size by omega)
    have rS1 := own_mono rS0 (show w.heap.size ≤ w1.heap.size by omega)
    have rI := rI1
    have rS := rS1
    clear rI0 rS0 rI1 rS1
    obtain ⟨a3, cap3, rfl⟩ := own_slice rI
    obtain ⟨a4, cap4, rfl⟩ := own_slice rS
    have R5 := row_st5 bR2 (by decide) rI (k' := k) (s' := s) (r' := r) (v' := .slice a3 ks.length cap3) (u' := .slice a4 vs.length cap4)
    have T5 := row_st5 bR2 (by decide) rS (k' := k) (s' := s) (r' := r) (v' := .slice a3 ks.length cap3) (u' := .slice a4 vs.length cap4)
    have B5 := st5_below (w.heap.size + 1) k s r (.slice a3 ks.length cap3) (.slice a4 vs.length cap4) c2' (by omega)
    have P5 := Box5.cells (Box5.st5 bR2 (k' := k) (s' := s) (r' := r) (v' := .slice a3 ks.length cap3) (u' := .slice a4 vs.length cap4))
    obtain ⟨y0, y1, y2, y3, y4⟩ := Box5.cells bR2
    have fR := Box5.frozen bR2
    have HR5 := hid R5
    have HT5 := hid T5
    have HB5 := hid B5
    have HP5 := hid P5
    clear R5 T5 B5 P5 rI rS
    go_wp2_with fail
    obtain ⟨p0, p1, p2, p3, p4⟩ := HP5.out
    unfold st5 at p0 p1 p2 p3 p4
    refine bodyPost_ret (v := .tuple #[.agg #[.int .i64 k, .int .i64 s, .int .i64 r, .slice a3 ks.length cap3, .slice a4 vs.length cap4], .int .i64 1]) (by simp [results, Try.results17, go_sem, p0, p1, p2, p3, p4]) rfl ?_
    rw [HT.out]
    exact ⟨_, rfl, ⟨_, _, rfl, HR5.out, HT5.out⟩, HB5.out⟩
  case false =>
    have hf : ¬ (inB key 0 4294967295 = false ∨ (val.size : Int) ≠ s) := by simp at hsz; simp [hnb, hsz]
    have hT := putL_eq hok hf
    obtain ⟨⟨K, S, R, KS, VS, CO⟩, hT2⟩ : ∃ q, putT k s r ks vs key val = q := ⟨_, rfl⟩
    have HT := hid hT.symm
    have HT2 := hid hT2
    clear hT hf hT2
    go_enter Try.func17, Try.ntmps17
    go_wp2_with fail
    refine (f28b k s r ks vs _ _ c d _ (ArgI.below HA.out HC2.out (Nat.le_refl _)) (ArgS.below HB.out HC2.out (Nat.le_refl _))).mono ?_
    rw [hok]
    rintro e w1 ⟨rfl, hb1⟩
    have bR1 := Box5.below HBR.out hb1 (by simp)
    have bT1 := Box5.below HBT.out hb1 (by simp; omega)
    have c1 : Below w.heap.size w w1 := HC2.out.trans (hb1.mono (by simp; omega))
    have z1 := hb1.size
    simp only [World.size_alloc] at z1
    have x1 : w.heap.size < w1.heap.size := by omega
    have x2 : w.heap.size + 1 < w1.heap.size := by omega
    obtain ⟨t0, t1, t2, t3, t4⟩ := Box5.cells bT1
    clear hb1
    go_wp2_with (first | (go_at_call 53; refine (f48 _).mono ?_; rintro e w' ⟨rfl, hw⟩; rw [hw]; clear hw w') | (go_at_call 40; refine (f36 _ _ _ _).mono ?_; rintro e w' ⟨rfl, hw⟩; rw [hw]; clear hw w'))
    refine (f49 k s r ks vs g1 g2 c d _ (IntRow.below HI.out c1 l1) (StrRow.below HS.out c1 l2) (by omega) (by omega) hkm hvm).mono ?_
    rintro e w2 ⟨V, rfl, htab, hb2⟩
    obtain ⟨va, ub, rfl, rI0, rS0⟩ := htab
    have bR2 := Box5.below bR1 hb2 (by omega)
    have c2' : Below w.heap.size w w2 := c1.trans (hb2.mono (by omega))
    have z2 := hb2.size
    have rI1 := own_mono rI0 (show w.heap.size ≤ w1.heap.size by omega)
    have rS1 := own_mono rS0 (show w.heap.size ≤ w1.heap.size by omega)
    obtain ⟨a3, cap3, rfl⟩ := own_slice rI0
    obtain ⟨a4, cap4, rfl⟩ := own_slice rS0
    have HI0 := hid rI0
    have HS0 := hid rS0
    have l12 : w1.heap.size ≤ w2.heap.size := z2
    clear rI0 rS0 rI1 rS1
    go_wp2_with fail
    refine (f50 k s r ks vs a3 a4 cap3 cap4 key val w1.heap.size w2 HI0.out HS0.out l12 HSH.out.1 hk8).mono ?_
    rw [← HT.out, HT2.out]
    rintro e w3 ⟨V3, rfl, htab3, hb3⟩
    obtain ⟨va3, ub3, rfl, rI3, rS3⟩ := htab3
    have bR3 := Box5.below bR2 hb3 (by omega)
    have c3' : Below w.heap.size w w3 := c2'.trans (hb3.mono (by omega))
    have rI := own_mono rI3 (show w.heap.size ≤ w1.heap.size by omega)
    have rS := own_mono rS3 (show w.heap.size ≤ w1.heap.size by omega)
    obtain ⟨a5, cap5, rfl⟩ := own_slice rI
    obtain ⟨a6, cap6, rfl⟩ := own_slice rS
    clear rI3 rS3
    have R5 := row_st5 bR3 (by decide) rI (k' := K) (s' := S) (r' := R) (v' := .slice a5 KS.length cap5) (u' := .slice a6 VS.length cap6)
    have T5 := row_st5 bR3 (by decide) rS (k' := K) (s' := S) (r' := R) (v' := .slice a5 KS.length cap5) (u' := .slice a6 VS.length cap6)
    have B5 := st5_below (w.heap.size + 1) K S R (.slice a5 KS.length cap5) (.slice a6 VS.length cap6) c3' (by omega)
    have P5 := Box5.cells (Box5.st5 bR3 (k' := K) (s' := S) (r' := R) (v' := .slice a5 KS.length cap5) (u' := .slice a6 VS.length cap6))
    obtain ⟨y0, y1, y2, y3, y4⟩ := Box5.cells bR3
    have fR := Box5.frozen bR3
    have HR5 := hid R5
    have HT5 := hid T5
    have HB5 := hid B5
    have HP5 := hid P5
    clear R5 T5 B5 P5 rI rS
    go_wp2_with fail
    obtain ⟨p0, p1, p2, p3, p4⟩ := HP5.out
    unfold st5 at p0 p1 p2 p3 p4
    refine bodyPost_ret (v := .tuple #[.agg #[.int .i64 K, .int .i64 S, .int .i64 R, .slice a5 KS.length cap5, .slice a6 VS.length cap6], .int .i64 CO]) (by simp [results, Try.results17, go_sem, p0, p1, p2, p3, p4]) rfl ?_
    rw [HT2.out]
    exact ⟨_, rfl, ⟨_, _, rfl, HR5.out, HT5.out⟩, HB5.out⟩

end Go.Proofs.Ytahbicegmioplaa
