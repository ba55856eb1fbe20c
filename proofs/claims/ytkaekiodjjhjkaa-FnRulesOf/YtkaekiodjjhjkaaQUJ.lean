/- TableNew of the specification and of the program. -/
import Derived.Test.YtkaekiodjjhjkaaQUI
namespace Go.Proofs.Ytkaekiodjjhjkaa.G
open Go.RowKit
set_option linter.unusedSimpArgs false
set_option linter.unusedVariables false

def newT (k s r : Int) : TR := if shapeB k s r = true then (if k = 1 then ⟨k, s, r, keysN r.toNat, List.replicate r.toNat (zerosB s.toNat), 0⟩ else ⟨k, s, r, [], [], 0⟩) else ⟨0, 0, 0, [], [], 0⟩

set_option maxRecDepth 100000 in
set_option maxHeartbeats 2000000 in
theorem f37hash (k : Int) (hk : (k == 1) = false) (s r : Int) (w : World) :
    Calls Try.prog 84 #[.int .i64 k, .int .i64 s, .int .i64 r] w fun e w' => e = .returned (.agg #[.int .i64 k, .int .i64 s, .int .i64 r, .slice none 0 0, .slice none 0 0]) ∧ Below w.heap.size w w' := by
  go_enter Try.func84, Try.ntmps84
  go_wp2_with fail
  refine bodyPost_ret (v := .agg #[.int .i64 k, .int .i64 s, .int .i64 r, .slice none 0 0, .slice none 0 0]) (by simp [results, Try.results84, go_sem]) rfl ?_
  exact ⟨rfl, ((Below.refl _ _).alloc (Nat.le_refl _) _).alloc (by simp) _⟩

set_option maxRecDepth 100000 in
set_option maxHeartbeats 4000000 in
theorem f14 (k s r : Int) (w : World) :
    Calls Try.prog 69 #[.int .i64 k, .int .i64 s, .int .i64 r] w fun e w' => ∃ V, e = .returned V ∧ Tab w.heap.size w' (newT k s r).k (newT k s r).s (newT k s r).r (newT k s r).ks (newT k s r).vs V ∧ Below w.heap.size w w' := by
  have c1 : Below w.heap.size w (w.alloc (.cells #[.int .i64 0, .int .i64 0, .int .i64 0, .slice none 0 0, .slice none 0 0] 89)) := (Below.refl _ w).alloc (Nat.le_refl _) _
  have bR : Box5 (w.alloc (.cells #[.int .i64 0, .int .i64 0, .int .i64 0, .slice none 0 0, .slice none 0 0] 89)) w.heap.size 0 0 0 (.slice none 0 0) (.slice none 0 0) := World.alloc_heap_new w (.cells #[.int .i64 0, .int .i64 0, .int .i64 0, .slice none 0 0, .slice none 0 0] 89)
  have HC1 := hid c1
  have HBR := hid bR
  clear c1 bR
  cases h1 : inB k 1 2
  case false =>
    have hT : newT k s r = ⟨0, 0, 0, [], [], 0⟩ := by unfold newT; rw [if_neg (by simp [shapeB, *])]
    have HT := hid hT
    clear hT
    go_enter Try.func69, Try.ntmps69
    go_wp2_with (first | (go_at_call 56; refine (f36 _ _ _ _).mono ?_; rintro e w' ⟨rfl, hw⟩; rw [hw]; clear hw w'))
    refine bodyPost_ret (v := .agg #[.int .i64 0, .int .i64 0, .int .i64 0, .slice none 0 0, .slice none 0 0]) (by simp [results, Try.results69, go_sem]) rfl ?_
    rw [HT.out]
    exact ⟨_, rfl, Tab.nil _ _ _ _ _, (Below.refl _ _).alloc (Nat.le_refl _) _⟩
  cases h2 : inB s 1 8
  case false =>
    have hT : newT k s r = ⟨0, 0, 0, [], [], 0⟩ := by unfold newT; rw [if_neg (by simp [shapeB, *])]
    have HT := hid hT
    clear hT
    go_enter Try.func69, Try.ntmps69
    go_wp2_with (first | (go_at_call 56; refine (f36 _ _ _ _).mono ?_; rintro e w' ⟨rfl, hw⟩; rw [hw]; clear hw w'))
    refine bodyPost_ret (v := .agg #[.int .i64 0, .int .i64 0, .int .i64 0, .slice none 0 0, .slice none 0 0]) (by simp [results, Try.results69, go_sem]) rfl ?_
    rw [HT.out]
    exact ⟨_, rfl, Tab.nil _ _ _ _ _, (Below.refl _ _).alloc (Nat.le_refl _) _⟩
  cases h3 : inB r 1 8
  case false =>
    have hT : newT k s r = ⟨0, 0, 0, [], [], 0⟩ := by unfold newT; rw [if_neg (by simp [shapeB, *])]
    have HT := hid hT
    clear hT
    go_enter Try.func69, Try.ntmps69
    go_wp2_with (first | (go_at_call 56; refine (f36 _ _ _ _).mono ?_; rintro e w' ⟨rfl, hw⟩; rw [hw]; clear hw w'))
    refine bodyPost_ret (v := .agg #[.int .i64 0, .int .i64 0, .int .i64 0, .slice none 0 0, .slice none 0 0]) (by simp [results, Try.results69, go_sem]) rfl ?_
    rw [HT.out]
    exact ⟨_, rfl, Tab.nil _ _ _ _ _, (Below.refl _ _).alloc (Nat.le_refl _) _⟩
  have hsh : shapeB k s r = true := by simp [shapeB, h1, h2, h3]
  by_cases hk : k = 1
  · obtain ⟨n, rfl⟩ : ∃ n : Nat, s = n := ⟨s.toNat, by simp [inB] at h2; omega⟩
    obtain ⟨m, rfl⟩ : ∃ m : Nat, r = m := ⟨r.toNat, by simp [inB] at h3; omega⟩
    have hn : n ≤ 8 := by simp [inB] at h2; omega
    have hm : m ≤ 8 := by simp [inB] at h3; omega
    obtain ⟨KS, hKS⟩ : ∃ KS, KS = keysN m := ⟨_, rfl⟩
    obtain ⟨VS, hVS⟩ : ∃ VS, VS = List.replicate m (zerosB n) := ⟨_, rfl⟩
    have hT : newT k n m = ⟨k, n, m, KS, VS, 0⟩ := by unfold newT; rw [if_pos hsh, if_pos hk, hKS, hVS]; simp
    have HKS := hid hKS
    have HVS := hid hVS
    clear hKS hVS
    have hk' : (k == 1) = true := by simpa using hk
    have HT := hid hT
    clear hT hk hsh
    go_enter Try.func69, Try.ntmps69
    go_wp2_with (first | (go_at_call 56; refine (f36 _ _ _ _).mono ?_; rintro e w' ⟨rfl, hw⟩; rw [hw]; clear hw w'))
    refine (f37row k hk' n m _ hn hm).mono ?_
    rw [← HKS.out, ← HVS.out]
    rintro e w1 ⟨V, rfl, htab, hb1⟩
    obtain ⟨v, u, rfl, rI0, rS0⟩ := htab
    have bR1 := Box5.below HBR.out hb1 (by simp)
    have c1 : Below w.heap.size w w1 := HC1.out.trans (hb1.mono (by simp))
    have rI := own_mono rI0 (show w.heap.size ≤ (w.alloc (.cells #[.int .i64 0, .int .i64 0, .int .i64 0, .slice none 0 0, .slice none 0 0] 89)).heap.size by simp)
    have rS := own_mono rS0 (show w.heap.size ≤ (w.alloc (.cells #[.int .i64 0, .int .i64 0, .int .i64 0, .slice none 0 0, .slice none 0 0] 89)).heap.size by simp)
    obtain ⟨va, vc, rfl⟩ := own_slice rI
    obtain ⟨ua, uc, rfl⟩ := own_slice rS
    clear rI0 rS0
    have R5 := row_st5 bR1 (by decide) rI (k' := k) (s' := (n : Int)) (r' := (m : Int)) (v' := .slice va (KS).length vc) (u' := .slice ua (VS).length uc)
    have T5 := row_st5 bR1 (by decide) rS (k' := k) (s' := (n : Int)) (r' := (m : Int)) (v' := .slice va (KS).length vc) (u' := .slice ua (VS).length uc)
    have HR5 := hid R5
    have HT5 := hid T5
    clear R5 T5 rI rS
    have B5 := st5_below (w.heap.size) k n m (.slice va (KS).length vc) (.slice ua (VS).length uc) c1 (by omega)
    have P5 := Box5.cells (Box5.st5 bR1 (k' := k) (s' := (n : Int)) (r' := (m : Int)) (v' := .slice va (KS).length vc) (u' := .slice ua (VS).length uc))
    obtain ⟨y0, y1, y2, y3, y4⟩ := Box5.cells bR1
    have fR := Box5.frozen bR1
    have HB5 := hid B5
    have HP5 := hid P5
    clear B5 P5
    go_wp2_with fail
    obtain ⟨p0, p1, p2, p3, p4⟩ := HP5.out
    unfold st5 at p0 p1 p2 p3 p4
    refine bodyPost_ret (v := .agg #[.int .i64 k, .int .i64 n, .int .i64 m, .slice va (KS).length vc, .slice ua (VS).length uc]) (by simp [results, Try.results69, go_sem, p0, p1, p2, p3, p4]) rfl ?_
    rw [HT.out]
    exact ⟨_, rfl, ⟨_, _, rfl, HR5.out, HT5.out⟩, HB5.out⟩
  · have hT : newT k s r = ⟨k, s, r, [], [], 0⟩ := by unfold newT; rw [if_pos hsh, if_neg hk]
    have hk' : (k == 1) = false := by simpa using hk
    have HT := hid hT
    clear hT hk hsh
    go_enter Try.func69, Try.ntmps69
    go_wp2_with (first | (go_at_call 56; refine (f36 _ _ _ _).mono ?_; rintro e w' ⟨rfl, hw⟩; rw [hw]; clear hw w'))
    refine (f37hash k hk' s r _).mono ?_
    rintro e w1 ⟨rfl, hb1⟩
    have bR1 := Box5.below HBR.out hb1 (by simp)
    have c1 : Below w.heap.size w w1 := HC1.out.trans (hb1.mono (by simp))
    have B5 := st5_below (w.heap.size) k s r (.slice none 0 0) (.slice none 0 0) c1 (by omega)
    have P5 := Box5.cells (Box5.st5 bR1 (k' := k) (s' := s) (r' := r) (v' := .slice none 0 0) (u' := .slice none 0 0))
    obtain ⟨y0, y1, y2, y3, y4⟩ := Box5.cells bR1
    have fR := Box5.frozen bR1
    have HB5 := hid B5
    have HP5 := hid P5
    clear B5 P5
    go_wp2_with fail
    obtain ⟨p0, p1, p2, p3, p4⟩ := HP5.out
    unfold st5 at p0 p1 p2 p3 p4
    refine bodyPost_ret (v := .agg #[.int .i64 k, .int .i64 s, .int .i64 r, .slice none 0 0, .slice none 0 0]) (by simp [results, Try.results69, go_sem, p0, p1, p2, p3, p4]) rfl ?_
    rw [HT.out]
    exact ⟨_, rfl, Tab.nil _ _ _ _ _, HB5.out⟩

end Go.Proofs.Ytkaekiodjjhjkaa.G
