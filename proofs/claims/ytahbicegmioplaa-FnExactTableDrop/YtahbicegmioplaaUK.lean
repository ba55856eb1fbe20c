/- TableNew of the program. -/
import Derived.Test.YtahbicegmioplaaUJ
namespace Go.Proofs.Ytahbicegmioplaa
open Go.RowKit
set_option linter.unusedSimpArgs false
set_option linter.unusedVariables false

def pairsN (n j : Nat) : List Pr := (List.range j).map fun (i : Nat) => ((i : Int), zerosB n)
theorem pairsN_length (n j : Nat) : (pairsN n j).length = j := by simp [pairsN]
theorem pairsN_snoc (n j : Nat) : pairsN n (j + 1) = pairsN n j ++ [((j : Int), zerosB n)] := by simp [pairsN, List.range_succ]
theorem pairsN_put (n j : Nat) : putP (pairsN n j) j (zerosB n) = pairsN n (j + 1) := by
  have hz : ∀ x ∈ pairsN n j, (x.1 == (j : Int)) = false := by
    intro x hx
    obtain ⟨i, hi, rfl⟩ := List.mem_map.1 hx
    simp at hi
    simp; omega
  have hany : anyK (pairsN n j) j = false := by simp only [anyK]; rw [List.any_eq_false]; intro x hx; simp [hz x hx]
  unfold putP
  rw [hany, if_neg (by simp), putO_none hz, pairsN_snoc]
theorem pairsN_ints (n j : Nat) : intsOf (pairsN n j) = (keysN j).map (.int .i64) := by simp [intsOf, pairsN, keysN]
theorem pairsN_strs (n j : Nat) : strsOf (pairsN n j) = (List.replicate j (zerosB n)).map .string := by
  simp only [strsOf, pairsN, List.map_map]
  refine List.ext_getElem (by simp) fun i h1 h2 => by simp

set_option maxRecDepth 100000 in
set_option maxHeartbeats 4000000 in
theorem f15 (k s r : Int) (w : World) :
    Calls Try.prog 10 #[.int .i64 k, .int .i64 s, .int .i64 r] w fun e w' => ∃ V, e = .returned V ∧ Tab w.heap.size w' (newT k s r).k (newT k s r).s (newT k s r).r (newT k s r).ks (newT k s r).vs V ∧ Below w.heap.size w w' := by
  have c1 : Below w.heap.size w (w.alloc (.cells #[.int .i64 0, .int .i64 0, .int .i64 0, .slice none 0 0, .slice none 0 0] 28)) := (Below.refl _ w).alloc (Nat.le_refl _) _
  have bR : Box5 (w.alloc (.cells #[.int .i64 0, .int .i64 0, .int .i64 0, .slice none 0 0, .slice none 0 0] 28)) w.heap.size 0 0 0 (.slice none 0 0) (.slice none 0 0) := World.alloc_heap_new w (.cells #[.int .i64 0, .int .i64 0, .int .i64 0, .slice none 0 0, .slice none 0 0] 28)
  have HC1 := hid c1
  have HBR := hid bR
  clear c1 bR
  cases hsh : shapeB k s r
  case false =>
    have hT : newT k s r = ⟨0, 0, 0, [], [], 0⟩ := by unfold newT; rw [if_neg (by simp [hsh])]
    have HT := hid hT
    clear hT
    go_enter Try.func10, Try.ntmps10
    go_wp2_with fail
    refine (f31 _ _ _ _).mono ?_
    rintro e w' ⟨rfl, hw⟩
    rw [hw]
    clear hw w'
    go_wp2_with fail
    refine bodyPost_ret (v := .agg #[.int .i64 0, .int .i64 0, .int .i64 0, .slice none 0 0, .slice none 0 0]) (by simp [results, Try.results10, go_sem]) rfl ?_
    rw [HT.out]
    exact ⟨_, rfl, Tab.nil _ _ _ _ _, (Below.refl _ _).alloc (Nat.le_refl _) _⟩
  by_cases hk : k = 1
  · obtain ⟨n, rfl⟩ : ∃ n : Nat, s = n := ⟨s.toNat, by simp [shapeB, inB] at hsh; omega⟩
    obtain ⟨m, rfl⟩ : ∃ m : Nat, r = m := ⟨r.toNat, by simp [shapeB, inB] at hsh; omega⟩
    have hn : n ≤ 8 := by simp [shapeB, inB] at hsh; omega
    have hm : m ≤ 8 := by simp [shapeB, inB] at hsh; omega
    have hT : newT k n m = ⟨k, n, m, keysN m, List.replicate m (zerosB n), 0⟩ := by unfold newT; rw [if_pos hsh, if_pos hk]; simp
    have hk' : (k == 1) = true := by simpa using hk
    have HT := hid hT
    clear hT hk
    go_enter Try.func10, Try.ntmps10
    go_wp2_with fail
    refine (f31 _ _ _ _).mono ?_
    rintro e w' ⟨rfl, hw⟩
    rw [hw]
    clear hw w'
    go_wp2_with fail
    go_loopw [7, 8] (fun p i wr => ∃ j : Nat, j ≤ m ∧ i = .int .i64 j ∧ wr.ownsRow w.heap.size 82 2 p (pairsN n j).length (flatP (pairsN n j)) ∧ Box5 wr w.heap.size 0 0 0 (.slice none 0 0) (.slice none 0 0) ∧ Below w.heap.size w wr) (fun _ i _ => m - (intOf i).toNat)
    case atStart => exact ⟨0, Nat.zero_le _, rfl, World.ownsRow_nil _ _ _ _, HBR.out, HC1.out⟩
    case round =>
      clear HBR HC1
      obtain ⟨j, hj, rfl, hown, bR, cw⟩ := hrel
      have hsz := cw.size
      have hlt0 := Box5.lt bR
      have hpl : (pairsN n j).length ≤ 1048576 := by rw [pairsN_length]; omega
      have hput := pairsN_put n j
      have hi1 := pairsN_ints n j
      have hs1 := pairsN_strs n j
      have hl1 := pairsN_length n j
      obtain ⟨ps, hps⟩ : ∃ ps, ps = pairsN n j := ⟨_, rfl⟩
      rw [← hps] at hown hpl hput hi1 hs1 hl1
      obtain ⟨pa, pc, rfl, hP⟩ := own_argP hown
      have HP := hid hP
      have HPL := hid hpl
      have HPUT := hid hput
      have HI1 := hid hi1
      have HS1 := hid hs1
      have HL1 := hid hl1
      have HR := hid bR
      have HC := hid cw
      clear hP hpl hput hi1 hs1 hl1 bR cw hown hps
      by_cases hlt : j < m
      · have hlt' : (j : Int) < (m : Int) := by omega
        go_wp2_with fail
        refine (f39 n wr hn).mono ?_
        rintro e w2 ⟨rfl, hb2⟩
        go_wp2_with fail
        refine (f38 pa pc ps j (zerosB n) HPL.out w2 (ArgP.lift HP.out hb2)).mono ?_
        rw [HPUT.out]
        rintro e w3 ⟨v3, rfl, hown3, hb3⟩
        have z2 := hb2.size
        have bR3 := Box5.below (Box5.below HR.out hb2 (by omega)) hb3 (by omega)
        have c3 := (HC.out.trans (hb2.mono (by omega))).trans (hb3.mono (by omega))
        have o3 := own_mono hown3 (show w.heap.size ≤ w2.heap.size by omega)
        have HR3 := hid bR3
        have HC3 := hid c3
        have HO3 := hid o3
        clear bR3 c3 o3 hown3
        go_wp2_with fail
        go_roundw
        case rel => exact ⟨j + 1, by omega, by go_num, HO3.out, HR3.out, HC3.out⟩
        case measure => simp [intOf]; omega
      · obtain rfl : j = m := by omega
        go_wp2_with fail
        refine (f40 k n j none none 0 0 0 0 pa pc ps HPL.out wr HP.out).mono ?_
        rintro e w5 ⟨v5, u5, rfl, r50, t50, hb5⟩
        have bR5 := Box5.below HR.out hb5 (by omega)
        have c5 := HC.out.trans (hb5.mono (by omega))
        have r5 := own_mono r50 (show w.heap.size ≤ wr.heap.size by omega)
        have t5 := own_mono t50 (show w.heap.size ≤ wr.heap.size by omega)
        obtain ⟨a5, cap5, rfl⟩ := own_slice r5
        obtain ⟨a6, cap6, rfl⟩ := own_slice t5
        clear r50 t50
        have R5 := row_st5 bR5 (by decide) r5 (k' := k) (s' := n) (r' := j) (v' := .slice a5 ps.length cap5) (u' := .slice a6 ps.length cap6)
        have T5 := row_st5 bR5 (by decide) t5 (k' := k) (s' := n) (r' := j) (v' := .slice a5 ps.length cap5) (u' := .slice a6 ps.length cap6)
        have HR5 := hid R5
        have HT5 := hid T5
        clear R5 T5 r5 t5
        have B5 := st5_below (w.heap.size) k n j (.slice a5 ps.length cap5) (.slice a6 ps.length cap6) c5 (by omega)
        have P5 := Box5.cells (Box5.st5 bR5 (k' := k) (s' := n) (r' := j) (v' := .slice a5 ps.length cap5) (u' := .slice a6 ps.length cap6))
        obtain ⟨y0, y1, y2, y3, y4⟩ := Box5.cells bR5
        have fR := Box5.frozen bR5
        have HB5 := hid B5
        have HP5 := hid P5
        clear B5 P5
        go_wp2_with fail
        obtain ⟨p0, p1, p2, p3, p4⟩ := HP5.out
        unfold st5 at p0 p1 p2 p3 p4
        refine bodyPost_ret (v := .agg #[.int .i64 k, .int .i64 n, .int .i64 j, .slice a5 ps.length cap5, .slice a6 ps.length cap6]) (by simp [results, Try.results10, go_sem, p0, p1, p2, p3, p4]) rfl ?_
        rw [HT.out]
        exact ⟨_, rfl, ⟨_, _, rfl, by have := HR5.out; rw [HI1.out] at this; rw [keysN_length]; rw [HL1.out] at this ⊢; exact this, by have := HT5.out; rw [HS1.out] at this; rw [List.length_replicate]; rw [HL1.out] at this ⊢; exact this⟩, HB5.out⟩
  · have hT : newT k s r = ⟨k, s, r, [], [], 0⟩ := by unfold newT; rw [if_pos hsh, if_neg hk]
    have hk' : (k == 1) = false := by simpa using hk
    have HT := hid hT
    clear hT hk
    go_enter Try.func10, Try.ntmps10
    go_wp2_with fail
    refine (f31 _ _ _ _).mono ?_
    rintro e w' ⟨rfl, hw⟩
    rw [hw]
    clear hw w'
    go_wp2_with fail
    have h40 := f40 k s r none none 0 0 0 0 none 0 [] (by simp) (w.alloc (.cells #[.int .i64 0, .int .i64 0, .int .i64 0, .slice none 0 0, .slice none 0 0] 28)) (.inl rfl)
    simp only [List.length_nil] at h40
    refine h40.mono ?_
    rintro e w5 ⟨v5, u5, rfl, r50, t50, hb5⟩
    have bR5 := Box5.below HBR.out hb5 (by simp)
    have c5 := HC1.out.trans (hb5.mono (by simp))
    have r5 := own_mono r50 (show w.heap.size ≤ (w.alloc (.cells #[.int .i64 0, .int .i64 0, .int .i64 0, .slice none 0 0, .slice none 0 0] 28)).heap.size by simp)
    have t5 := own_mono t50 (show w.heap.size ≤ (w.alloc (.cells #[.int .i64 0, .int .i64 0, .int .i64 0, .slice none 0 0, .slice none 0 0] 28)).heap.size by simp)
    obtain ⟨a5, cap5, rfl⟩ := own_slice r5
    obtain ⟨a6, cap6, rfl⟩ := own_slice t5
    clear r50 t50 h40
    have R5 := row_st5 bR5 (by decide) r5 (k' := k) (s' := s) (r' := r) (v' := .slice a5 0 cap5) (u' := .slice a6 0 cap6)
    have T5 := row_st5 bR5 (by decide) t5 (k' := k) (s' := s) (r' := r) (v' := .slice a5 0 cap5) (u' := .slice a6 0 cap6)
    have HR5 := hid R5
    have HT5 := hid T5
    clear R5 T5 r5 t5
    have B5 := st5_below (w.heap.size) k s r (.slice a5 0 cap5) (.slice a6 0 cap6) c5 (by omega)
    have P5 := Box5.cells (Box5.st5 bR5 (k' := k) (s' := s) (r' := r) (v' := .slice a5 0 cap5) (u' := .slice a6 0 cap6))
    obtain ⟨y0, y1, y2, y3, y4⟩ := Box5.cells bR5
    have fR := Box5.frozen bR5
    have HB5 := hid B5
    have HP5 := hid P5
    clear B5 P5
    go_wp2_with fail
    obtain ⟨p0, p1, p2, p3, p4⟩ := HP5.out
    unfold st5 at p0 p1 p2 p3 p4
    refine bodyPost_ret (v := .agg #[.int .i64 k, .int .i64 s, .int .i64 r, .slice a5 0 cap5, .slice a6 0 cap6]) (by simp [results, Try.results10, go_sem, p0, p1, p2, p3, p4]) rfl ?_
    rw [HT.out]
    exact ⟨_, rfl, ⟨_, _, rfl, HR5.out, HT5.out⟩, HB5.out⟩

end Go.Proofs.Ytahbicegmioplaa
