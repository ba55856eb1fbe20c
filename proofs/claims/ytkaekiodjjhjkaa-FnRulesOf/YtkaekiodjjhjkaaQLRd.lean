/- The specification's l1Read, loosely. -/
import Derived.Test.YtkaekiodjjhjkaaQLRd0
import Derived.Deep.DeepCutAuto
namespace Go.Proofs.Ytkaekiodjjhjkaa
open Go.RowKit
set_option linter.unusedVariables false
set_option linter.unusedSimpArgs false

theorem SL.at' {w : World} {g j : Nat} {l : List ByteArray} {y : ByteArray} (h : SL w g l) (hj : j < l.length) (e : y = l.getD j ⟨#[]⟩) : w.cell? ⟨g, j, none⟩ = some (.string y) := by rw [e]; exact h.2 j hj
theorem str_eq (a b : ByteArray) : (a.toList == b.toList) = true ↔ a = b := by
  rw [ByteArray.toList_eq, ByteArray.toList_eq, beq_iff_eq]
  constructor
  · intro h
    obtain ⟨⟨x⟩⟩ := a
    obtain ⟨⟨y⟩⟩ := b
    simp only at h
    rw [h]
  · rintro rfl
    rfl

set_option maxRecDepth 100000 in
set_option maxHeartbeats 4000000 in
theorem read_w (ws : List ByteArray) (g c : Nat) (w : World) (h : SL w g ws) (hl1 : 1 ≤ ws.length) (hl6 : ws.length ≤ 6) (hsz : ∀ x ∈ ws, x.size ≤ 1000) :
    Calls Try.prog 80 #[.slice (some ⟨g, 0, none⟩) ws.length c] w fun e w' => AnX e ∧ Below w.heap.size w w' := by
  obtain ⟨y0, hy0⟩ : ∃ y, y = ws.getD 0 ⟨#[]⟩ := ⟨_, rfl⟩
  have hy0s : y0.size ≤ 1000 := by rw [hy0, List.getD, List.getElem?_eq_getElem (by omega)]; exact hsz _ (List.getElem_mem _)
  obtain ⟨y1, hy1⟩ : ∃ y, y = ws.getD 1 ⟨#[]⟩ := ⟨_, rfl⟩
  have hy1s : y1.size ≤ 1000 := by
    rw [hy1, List.getD]
    rcases Nat.lt_or_ge 1 ws.length with hj | hj
    · rw [List.getElem?_eq_getElem hj]; exact hsz _ (List.getElem_mem hj)
    · rw [List.getElem?_eq_none hj]; decide
  have HY1 := hid hy1
  clear hy1
  obtain ⟨y2, hy2⟩ : ∃ y, y = ws.getD 2 ⟨#[]⟩ := ⟨_, rfl⟩
  have hy2s : y2.size ≤ 1000 := by
    rw [hy2, List.getD]
    rcases Nat.lt_or_ge 2 ws.length with hj | hj
    · rw [List.getElem?_eq_getElem hj]; exact hsz _ (List.getElem_mem hj)
    · rw [List.getElem?_eq_none hj]; decide
  have HY2 := hid hy2
  clear hy2
  obtain ⟨y3, hy3⟩ : ∃ y, y = ws.getD 3 ⟨#[]⟩ := ⟨_, rfl⟩
  have hy3s : y3.size ≤ 1000 := by
    rw [hy3, List.getD]
    rcases Nat.lt_or_ge 3 ws.length with hj | hj
    · rw [List.getElem?_eq_getElem hj]; exact hsz _ (List.getElem_mem hj)
    · rw [List.getElem?_eq_none hj]; decide
  have HY3 := hid hy3
  clear hy3
  have HY0 := hid hy0
  have HW0 := hid h
  have HSZ := hid hsz
  have lg := h.1
  have hl0 : 0 < ws.length := by omega
  have hl0' : (0 : Int) < (ws.length : Int) := by omega
  have hl0n : ¬ ws.length = 0 := by omega
  clear h hy0 hsz
  go_enter Try.func80, Try.ntmps80
  go_wp2_with fail
  have hq : Box6 (w.alloc (.cells #[.int .i64 0, .int .i64 0, .int .i64 0, .int .i64 0, .int .i64 0, .int .i64 0] 86)) w.heap.size 0 0 0 0 0 0 := World.alloc_heap_new w _
  have hz : Below w.heap.size w (w.alloc (.cells #[.int .i64 0, .int .i64 0, .int .i64 0, .int .i64 0, .int .i64 0, .int .i64 0] 86)) := (Below.refl _ _).alloc (Nat.le_refl _) _
  have HQ := hid hq
  have HZ := hid hz
  have HW := hid (HW0.out.below hz)
  clear hq hz HW0
  generalize w.alloc (.cells #[.int .i64 0, .int .i64 0, .int .i64 0, .int .i64 0, .int .i64 0, .int .i64 0] 86) = w1 at *
  go_cut [3] (fun p wr => ∃ (X : Nat) (v : Int), p = .pointer (some ⟨X, 0, none⟩) ∧ Box6 wr X v 0 (-1) 0 0 0 ∧ Box6 wr w.heap.size 0 0 0 0 0 0 ∧ SL wr g ws ∧ Below w.heap.size w wr ∧ w.heap.size < X ∧ g ≠ X ∧ -1 ≤ v ∧ v < 21)
  case first =>
    refine wp_region_held_drew (S := (fun w' => w'.cell? ⟨g, 0, none⟩ = some (.string y0))) (by kernel_rfl) (by exact SL.at' HW.out (by omega) HY0.out) (fun hHeld => ?_)
    have hbd : Below w1.heap.size w1 w1.drew := (Below.refl _ _).drew
    replace HQ := hid (HQ.out.bel hbd)
    replace HW := hid (HW.out.below hbd)
    replace HZ := hid (HZ.out.to hbd)
    clear hbd
    generalize w1.drew = W1 at *
    refine wpAnyH_take (i := 1) (oi := ?oi1) (v := ?v1) (fuel := 7) ?hi1 ?hs1 ?hf1 ?hr1 ?hq1 (Or.inl ⟨?hw1, ?hy1⟩) hHeld ?rest1
    case hi1 => rw [List.getElem?_toArray]; rfl
    case hq1 => exact fun _ _ _ h => h
    case hs1 | hf1 | hr1 => kernel_rfl
    case hw1 => rfl
    case hy1 => (intro w1 hSw; (try dsimp only at hSw); go_simp; try with_reducible rfl)
    (try simp only [Act.put, List.setIfInBounds_toArray, List.set_cons_zero, List.set_cons_succ])
    refine wpAnyH_take (i := 2) (oi := ?oi2) (v := ?v2) (fuel := 6) ?hi2 ?hs2 ?hf2 ?hr2 ?hq2 (Or.inl ⟨?hw2, ?hy2⟩) hHeld ?rest2
    case hi2 => rw [List.getElem?_toArray]; rfl
    case hq2 => exact fun _ _ _ h => h
    case hs2 | hf2 | hr2 => kernel_rfl
    case hw2 => rfl
    case hy2 => (intro w1 hSw; (try dsimp only at hSw); go_simp; try with_reducible rfl)
    (try simp only [Act.put, List.setIfInBounds_toArray, List.set_cons_zero, List.set_cons_succ])
    refine wpAnyH_take (i := 3) (oi := ?oi3) (v := ?v3) (fuel := 5) ?hi3 ?hs3 ?hf3 ?hr3 ?hq3 (Or.inl ⟨?hw3, ?hy3⟩) hHeld ?rest3
    case hi3 => rw [List.getElem?_toArray]; rfl
    case hq3 => exact fun _ _ _ h => h
    case hs3 | hf3 | hr3 => kernel_rfl
    case hw3 => rfl
    case hy3 => (intro w1 hSw; (try dsimp only at hSw); go_simp; try with_reducible rfl)
    (try simp only [Act.put, List.setIfInBounds_toArray, List.set_cons_zero, List.set_cons_succ])
    refine wpAnyH_ready (fuel := 4) (rs := [0, 6]) (by kernel_rfl) (by simp) ?_
    refine AllReadyH.cons (o := ?oi4) ?hi4 (fun K hK => ?st4) ?mo4
    case hi4 => rw [List.getElem?_toArray]; rfl
    case st4 =>
      go_simp
      refine (words_w _).mono ?_
      rintro ee wr0 ⟨rfl, hsl, b0⟩
      have HSL := hid hsl
      clear hsl
      replace HQ := hid (HQ.out.bel b0)
      replace HW := hid (HW.out.below b0)
      replace HZ := hid (HZ.out.to b0)
      clear b0
      go_wp2_with fail
      generalize W1.heap.size = G at *
      refine hK.out _ _ ?hS4 (fun hHeld => ?re4)
      case hS4 => exact SL.at' HW.out (by omega) HY0.out
      clear hK K
      (try simp only [Act.put, List.setIfInBounds_toArray, List.set_cons_zero, List.set_cons_succ])
      refine wpAnyH_ready (fuel := 3) (rs := [4, 6]) (by kernel_rfl) (by simp) ?_
      refine AllReadyH.cons (o := ?oi5) ?hi5 (fun K hK => ?st5) ?mo5
      case hi5 => rw [List.getElem?_toArray]; rfl
      case st5 =>
        go_simp
        refine (find_w wordsL G 21 rfl (by omega) y0 _ HSL.out).mono ?_
        rintro ee wr4 ⟨⟨v, v0, v1, rfl⟩, b4⟩
        clear HSL
        replace HQ := hid (HQ.out.bel b4)
        replace HW := hid (HW.out.below b4)
        replace HZ := hid (HZ.out.to b4)
        clear b4
        go_wp2_with fail
        refine hK.out _ _ ?hS5 (fun hHeld => ?re5)
        case hS5 => exact SL.at' HW.out (by omega) HY0.out
        clear hK K
        (try simp only [Act.put, List.setIfInBounds_toArray, List.set_cons_zero, List.set_cons_succ])
        refine wpAnyH_take (i := 5) (oi := ?oi6) (v := ?v6) (fuel := 2) ?hi6 ?hs6 ?hf6 ?hr6 ?hq6 (Or.inl ⟨?hw6, ?hy6⟩) hHeld ?rest6
        case hi6 => rw [List.getElem?_toArray]; rfl
        case hq6 => exact fun _ _ _ h => h
        case hs6 | hf6 | hr6 => kernel_rfl
        case hw6 => rfl
        case hy6 => (intro w1 hSw; (try dsimp only at hSw); go_simp; try with_reducible rfl)
        (try simp only [Act.put, List.setIfInBounds_toArray, List.set_cons_zero, List.set_cons_succ])
        refine wpAnyH_ready (fuel := 1) (rs := [6]) (by kernel_rfl) (by simp) ?_
        refine AllReadyH.cons (o := ?oi7) ?hi7 (fun K hK => ?st7) AllReadyH.nil
        case hi7 => rw [List.getElem?_toArray]; rfl
        go_simp
        have hx : Box6 (wr4.alloc (.cells #[.int .i64 0, .int .i64 0, .int .i64 0, .int .i64 0, .int .i64 0, .int .i64 0] 86)) wr4.heap.size 0 0 0 0 0 0 := World.alloc_heap_new wr4 _
        have ba : Below wr4.heap.size wr4 (wr4.alloc (.cells #[.int .i64 0, .int .i64 0, .int .i64 0, .int .i64 0, .int .i64 0, .int .i64 0] 86)) := (Below.refl _ _).alloc (Nat.le_refl _) _
        have lXQ := Box6.lt HQ.out
        have lXg := HW.out.1
        replace HQ := hid (HQ.out.bel ba)
        replace HW := hid (HW.out.below ba)
        replace HZ := hid (HZ.out.to ba)
        clear ba
        have HX := hid hx
        clear hx
        generalize wr4.alloc (.cells #[.int .i64 0, .int .i64 0, .int .i64 0, .int .i64 0, .int .i64 0, .int .i64 0] 86) = wr6 at *
        generalize wr4.heap.size = X at *
        refine hK.out _ _ ?hS7 (fun hHeld => ?re7)
        case hS7 => exact SL.at' HW.out (by omega) HY0.out
        clear hK K
        (try simp only [Act.put, List.setIfInBounds_toArray, List.set_cons_zero, List.set_cons_succ])
        refine wpAnyH_ready (fuel := 0) (rs := [7]) (by kernel_rfl) (by simp) ?_
        refine AllReadyH.cons (o := ?oi8) ?hi8 (fun K hK => ?st8) AllReadyH.nil
        case hi8 => rw [List.getElem?_toArray]; rfl
        obtain ⟨x0, x1, x2, x3, x4, x5⟩ := Box6.cells HX.out
        have xl := Box6.lt HX.out
        have xf := Box6.frozen HX.out
        go_simp
        clear x0 x1 x2 x3 x4 x5 xl xf
        refine hK.out _ _ ?hS8 (fun hHeld => ?re8)
        case hS8 => exact SL.at' (SL.st (C := X) HW.out (by omega) v 0 (-1) 0 0 0) (by omega) HY0.out
        clear hK K
        (try simp only [Act.put, List.setIfInBounds_toArray, List.set_cons_zero, List.set_cons_succ])
        refine wpAnyH_done (by kernel_rfl) ?_ _
        clear hHeld
        have h1 := Box6.st HX.out v 0 (-1) 0 0 0
        have h2 := Box6.stO HQ.out X (by omega) v 0 (-1) 0 0 0
        have h3 := SL.st (C := X) HW.out (by omega) v 0 (-1) 0 0 0
        have h4 := st6b_below (B := X) HZ.out (by omega) v 0 (-1) 0 0 0
        unfold st6b at h1 h2 h3 h4
        generalize ((((((wr6.setCell ⟨X, 0, none⟩ (.int .i64 v)).setCell ⟨X, 1, none⟩ (.int .i64 0)).setCell ⟨X, 2, none⟩ (.int .i64 (-1))).setCell ⟨X, 3, none⟩ (.int .i64 0)).setCell ⟨X, 4, none⟩ (.int .i64 0)).setCell ⟨X, 5, none⟩ (.int .i64 0)) = w2 at *
        replace HX := hid h1
        replace HQ := hid h2
        replace HW := hid h3
        replace HZ := hid h4
        clear h1 h2 h3 h4
        go_wp2_with fail
        go_meet
        case rel => exact ⟨X, v, rfl, HX.out, HQ.out, HW.out, HZ.out, by omega, by omega, v0, v1⟩
      refine AllReadyH.cons (o := ?oi9) ?hi9 (fun K hK => ?st9) ?mo9
      case hi9 => rw [List.getElem?_toArray]; rfl
      case st9 =>
        go_simp
        have hx : Box6 (wr0.alloc (.cells #[.int .i64 0, .int .i64 0, .int .i64 0, .int .i64 0, .int .i64 0, .int .i64 0] 86)) wr0.heap.size 0 0 0 0 0 0 := World.alloc_heap_new wr0 _
        have ba : Below wr0.heap.size wr0 (wr0.alloc (.cells #[.int .i64 0, .int .i64 0, .int .i64 0, .int .i64 0, .int .i64 0, .int .i64 0] 86)) := (Below.refl _ _).alloc (Nat.le_refl _) _
        have lXQ := Box6.lt HQ.out
        have lXg := HW.out.1
        replace HQ := hid (HQ.out.bel ba)
        replace HW := hid (HW.out.below ba)
        replace HSL := hid (HSL.out.below ba)
        replace HZ := hid (HZ.out.to ba)
        clear ba
        have HX := hid hx
        clear hx
        generalize wr0.alloc (.cells #[.int .i64 0, .int .i64 0, .int .i64 0, .int .i64 0, .int .i64 0, .int .i64 0] 86) = wr6 at *
        generalize wr0.heap.size = X at *
        refine hK.out _ _ ?hS9 (fun hHeld => ?re9)
        case hS9 => exact SL.at' HW.out (by omega) HY0.out
        clear hK K
        (try simp only [Act.put, List.setIfInBounds_toArray, List.set_cons_zero, List.set_cons_succ])
        refine wpAnyH_ready (fuel := 2) (rs := [4]) (by kernel_rfl) (by simp) ?_
        refine AllReadyH.cons (o := ?oi10) ?hi10 (fun K hK => ?st10) AllReadyH.nil
        case hi10 => rw [List.getElem?_toArray]; rfl
        go_simp
        refine (find_w wordsL G 21 rfl (by omega) y0 _ HSL.out).mono ?_
        rintro ee wr4 ⟨⟨v, v0, v1, rfl⟩, b4⟩
        clear HSL
        replace HQ := hid (HQ.out.bel b4)
        replace HX := hid (HX.out.bel b4)
        replace HW := hid (HW.out.below b4)
        replace HZ := hid (HZ.out.to b4)
        clear b4
        go_wp2_with fail
        refine hK.out _ _ ?hS10 (fun hHeld => ?re10)
        case hS10 => exact SL.at' HW.out (by omega) HY0.out
        clear hK K
        (try simp only [Act.put, List.setIfInBounds_toArray, List.set_cons_zero, List.set_cons_succ])
        refine wpAnyH_take (i := 5) (oi := ?oi11) (v := ?v11) (fuel := 1) ?hi11 ?hs11 ?hf11 ?hr11 ?hq11 (Or.inl ⟨?hw11, ?hy11⟩) hHeld ?rest11
        case hi11 => rw [List.getElem?_toArray]; rfl
        case hq11 => exact fun _ _ _ h => h
        case hs11 | hf11 | hr11 => kernel_rfl
        case hw11 => rfl
        case hy11 => (intro w1 hSw; (try dsimp only at hSw); go_simp; try with_reducible rfl)
        (try simp only [Act.put, List.setIfInBounds_toArray, List.set_cons_zero, List.set_cons_succ])
        refine wpAnyH_ready (fuel := 0) (rs := [7]) (by kernel_rfl) (by simp) ?_
        refine AllReadyH.cons (o := ?oi12) ?hi12 (fun K hK => ?st12) AllReadyH.nil
        case hi12 => rw [List.getElem?_toArray]; rfl
        obtain ⟨x0, x1, x2, x3, x4, x5⟩ := Box6.cells HX.out
        have xl := Box6.lt HX.out
        have xf := Box6.frozen HX.out
        go_simp
        clear x0 x1 x2 x3 x4 x5 xl xf
        refine hK.out _ _ ?hS12 (fun hHeld => ?re12)
        case hS12 => exact SL.at' (SL.st (C := X) HW.out (by omega) v 0 (-1) 0 0 0) (by omega) HY0.out
        clear hK K
        (try simp only [Act.put, List.setIfInBounds_toArray, List.set_cons_zero, List.set_cons_succ])
        refine wpAnyH_done (by kernel_rfl) ?_ _
        clear hHeld
        have h1 := Box6.st HX.out v 0 (-1) 0 0 0
        have h2 := Box6.stO HQ.out X (by omega) v 0 (-1) 0 0 0
        have h3 := SL.st (C := X) HW.out (by omega) v 0 (-1) 0 0 0
        have h4 := st6b_below (B := X) HZ.out (by omega) v 0 (-1) 0 0 0
        unfold st6b at h1 h2 h3 h4
        generalize ((((((wr4.setCell ⟨X, 0, none⟩ (.int .i64 v)).setCell ⟨X, 1, none⟩ (.int .i64 0)).setCell ⟨X, 2, none⟩ (.int .i64 (-1))).setCell ⟨X, 3, none⟩ (.int .i64 0)).setCell ⟨X, 4, none⟩ (.int .i64 0)).setCell ⟨X, 5, none⟩ (.int .i64 0)) = w2 at *
        replace HX := hid h1
        replace HQ := hid h2
        replace HW := hid h3
        replace HZ := hid h4
        clear h1 h2 h3 h4
        go_wp2_with fail
        go_meet
        case rel => exact ⟨X, v, rfl, HX.out, HQ.out, HW.out, HZ.out, by omega, by omega, v0, v1⟩
      exact AllReadyH.nil
    refine AllReadyH.cons (o := ?oi13) ?hi13 (fun K hK => ?st13) ?mo13
    case hi13 => rw [List.getElem?_toArray]; rfl
    case st13 =>
      go_simp
      have hx : Box6 (W1.alloc (.cells #[.int .i64 0, .int .i64 0, .int .i64 0, .int .i64 0, .int .i64 0, .int .i64 0] 86)) W1.heap.size 0 0 0 0 0 0 := World.alloc_heap_new W1 _
      have ba : Below W1.heap.size W1 (W1.alloc (.cells #[.int .i64 0, .int .i64 0, .int .i64 0, .int .i64 0, .int .i64 0, .int .i64 0] 86)) := (Below.refl _ _).alloc (Nat.le_refl _) _
      have lXQ := Box6.lt HQ.out
      have lXg := HW.out.1
      replace HQ := hid (HQ.out.bel ba)
      replace HW := hid (HW.out.below ba)
      replace HZ := hid (HZ.out.to ba)
      clear ba
      have HX := hid hx
      clear hx
      generalize W1.alloc (.cells #[.int .i64 0, .int .i64 0, .int .i64 0, .int .i64 0, .int .i64 0, .int .i64 0] 86) = wr6 at *
      generalize W1.heap.size = X at *
      refine hK.out _ _ ?hS13 (fun hHeld => ?re13)
      case hS13 => exact SL.at' HW.out (by omega) HY0.out
      clear hK K
      (try simp only [Act.put, List.setIfInBounds_toArray, List.set_cons_zero, List.set_cons_succ])
      refine wpAnyH_ready (fuel := 3) (rs := [0]) (by kernel_rfl) (by simp) ?_
      refine AllReadyH.cons (o := ?oi14) ?hi14 (fun K hK => ?st14) AllReadyH.nil
      case hi14 => rw [List.getElem?_toArray]; rfl
      go_simp
      refine (words_w _).mono ?_
      rintro ee wr0 ⟨rfl, hsl, b0⟩
      have HSL := hid hsl
      clear hsl
      replace HQ := hid (HQ.out.bel b0)
      replace HX := hid (HX.out.bel b0)
      replace HW := hid (HW.out.below b0)
      replace HZ := hid (HZ.out.to b0)
      clear b0
      go_wp2_with fail
      generalize wr6.heap.size = G at *
      refine hK.out _ _ ?hS14 (fun hHeld => ?re14)
      case hS14 => exact SL.at' HW.out (by omega) HY0.out
      clear hK K
      (try simp only [Act.put, List.setIfInBounds_toArray, List.set_cons_zero, List.set_cons_succ])
      refine wpAnyH_ready (fuel := 2) (rs := [4]) (by kernel_rfl) (by simp) ?_
      refine AllReadyH.cons (o := ?oi15) ?hi15 (fun K hK => ?st15) AllReadyH.nil
      case hi15 => rw [List.getElem?_toArray]; rfl
      go_simp
      refine (find_w wordsL G 21 rfl (by omega) y0 _ HSL.out).mono ?_
      rintro ee wr4 ⟨⟨v, v0, v1, rfl⟩, b4⟩
      clear HSL
      replace HQ := hid (HQ.out.bel b4)
      replace HX := hid (HX.out.bel b4)
      replace HW := hid (HW.out.below b4)
      replace HZ := hid (HZ.out.to b4)
      clear b4
      go_wp2_with fail
      refine hK.out _ _ ?hS15 (fun hHeld => ?re15)
      case hS15 => exact SL.at' HW.out (by omega) HY0.out
      clear hK K
      (try simp only [Act.put, List.setIfInBounds_toArray, List.set_cons_zero, List.set_cons_succ])
      refine wpAnyH_take (i := 5) (oi := ?oi16) (v := ?v16) (fuel := 1) ?hi16 ?hs16 ?hf16 ?hr16 ?hq16 (Or.inl ⟨?hw16, ?hy16⟩) hHeld ?rest16
      case hi16 => rw [List.getElem?_toArray]; rfl
      case hq16 => exact fun _ _ _ h => h
      case hs16 | hf16 | hr16 => kernel_rfl
      case hw16 => rfl
      case hy16 => (intro w1 hSw; (try dsimp only at hSw); go_simp; try with_reducible rfl)
      (try simp only [Act.put, List.setIfInBounds_toArray, List.set_cons_zero, List.set_cons_succ])
      refine wpAnyH_ready (fuel := 0) (rs := [7]) (by kernel_rfl) (by simp) ?_
      refine AllReadyH.cons (o := ?oi17) ?hi17 (fun K hK => ?st17) AllReadyH.nil
      case hi17 => rw [List.getElem?_toArray]; rfl
      obtain ⟨x0, x1, x2, x3, x4, x5⟩ := Box6.cells HX.out
      have xl := Box6.lt HX.out
      have xf := Box6.frozen HX.out
      go_simp
      clear x0 x1 x2 x3 x4 x5 xl xf
      refine hK.out _ _ ?hS17 (fun hHeld => ?re17)
      case hS17 => exact SL.at' (SL.st (C := X) HW.out (by omega) v 0 (-1) 0 0 0) (by omega) HY0.out
      clear hK K
      (try simp only [Act.put, List.setIfInBounds_toArray, List.set_cons_zero, List.set_cons_succ])
      refine wpAnyH_done (by kernel_rfl) ?_ _
      clear hHeld
      have h1 := Box6.st HX.out v 0 (-1) 0 0 0
      have h2 := Box6.stO HQ.out X (by omega) v 0 (-1) 0 0 0
      have h3 := SL.st (C := X) HW.out (by omega) v 0 (-1) 0 0 0
      have h4 := st6b_below (B := X) HZ.out (by omega) v 0 (-1) 0 0 0
      unfold st6b at h1 h2 h3 h4
      generalize ((((((wr4.setCell ⟨X, 0, none⟩ (.int .i64 v)).setCell ⟨X, 1, none⟩ (.int .i64 0)).setCell ⟨X, 2, none⟩ (.int .i64 (-1))).setCell ⟨X, 3, none⟩ (.int .i64 0)).setCell ⟨X, 4, none⟩ (.int .i64 0)).setCell ⟨X, 5, none⟩ (.int .i64 0)) = w2 at *
      replace HX := hid h1
      replace HQ := hid h2
      replace HW := hid h3
      replace HZ := hid h4
      clear h1 h2 h3 h4
      go_wp2_with fail
      go_meet
      case rel => exact ⟨X, v, rfl, HX.out, HQ.out, HW.out, HZ.out, by omega, by omega, v0, v1⟩
    exact AllReadyH.nil
  case rest =>
  obtain ⟨X, v, rfl, hx, hq, hw, hz, lQX, lgX, v0, v1⟩ := hcut
  clear HQ HW HZ
  have HX0 := hid hx
  have HQ0 := hid hq
  have HW0 := hid hw
  have HZ0 := hid hz
  clear hx hq hw hz
  go_wp2_with fail
  go_loopw [4] (fun t wr => ∃ (n : Nat) (o z : Int), t = .int .i64 n ∧ (n = 1 ∨ n = 2 ∨ n = 4 ∨ n = 8) ∧ Box6 wr X o 0 (-1) 0 0 z ∧ Box6 wr w.heap.size 0 0 0 0 0 0 ∧ SL wr g ws ∧ Below w.heap.size w wr ∧ -1 ≤ o ∧ o < 21) (fun t _ => 8 - (intOf t).toNat)
  case atStart => exact ⟨1, v, 0, rfl, .inl rfl, HX0.out, HQ0.out, HW0.out, HZ0.out, v0, v1⟩
  case round =>
    clear HX0 HQ0 HW0 HZ0 v0 v1
    obtain ⟨n, o, z, rfl, hn, hx, hq, hw, hz, o0, o1⟩ := hrel
    have HX := hid hx
    have HQ := hid hq
    have HW := hid hw
    have HZ := hid hz
    clear hx hq hw hz
    by_cases h8 : n = 8
    · skip
      subst h8
      clear hn
      have hoc : (1 ≤ o ∧ o ≤ 11) ∨ (12 ≤ o ∧ o ≤ 15) ∨ o = 16 ∨ o = 17 ∨ o = 18 ∨ o = 19 ∨ (o < 1 ∨ o = 20) := by omega
      have hlc : ws.length = 2 ∨ ws.length = 3 ∨ ws.length = 4 ∨ (ws.length ≠ 2 ∧ ws.length ≠ 3 ∧ ws.length ≠ 4) := by omega
      rcases hoc with ho | ho | rfl | rfl | rfl | rfl | ho
      · skip
        have hA : inB o 1 11 = true := by simp [inB]; omega
        have hJ : inB o 12 15 = false := by simp [inB]; omega
        have o16 : (o == 16) = false := by simp; omega
        have o17 : (o == 17) = false := by simp; omega
        have o18 : (o == 18) = false := by simp; omega
        have o19 : (o == 19) = false := by simp; omega
        rcases hlc with hln | hln | hln | hln
        · have HLN := hid hln
          have e2 : ((ws.length : Int) == 2) = true := by simp; omega
          have e3 : ((ws.length : Int) == 3) = false := by simp; omega
          have e4 : ((ws.length : Int) == 4) = false := by simp; omega
          obtain ⟨x0, x1, x2, x3, x4, x5⟩ := Box6.cells HX.out
          have xl := Box6.lt HX.out
          have xf := Box6.frozen HX.out
          go_wp2_with fail
          clear x0 x1 x2 x3 x4 x5 xl xf
          refine (f49 _ _).mono ?_
          rintro e w' ⟨rfl, hw⟩
          rw [hw]; clear hw w'
          rw [hA]
          obtain ⟨x0, x1, x2, x3, x4, x5⟩ := Box6.cells HX.out
          have xl := Box6.lt HX.out
          have xf := Box6.frozen HX.out
          go_wp2_with fail
          clear x0 x1 x2 x3 x4 x5 xl xf
          refine (f48 _ _).mono ?_
          rintro e w' ⟨rfl, hw⟩
          rw [hw]; clear hw w'
          rw [hJ]
          have B5' := hid (st6b_below (B := w.heap.size) HZ.out (Nat.le_refl _) o 0 (-1) 0 0 z)
          have P5 := hid (Box6.cells (Box6.st HQ.out o 0 (-1) 0 0 z))
          obtain ⟨x0, x1, x2, x3, x4, x5⟩ := Box6.cells HX.out
          have xl := Box6.lt HX.out
          have xf := Box6.frozen HX.out
          obtain ⟨q0, q1, q2, q3, q4, q5⟩ := Box6.cells HQ.out
          have ql := Box6.lt HQ.out
          have qf := Box6.frozen HQ.out
          go_wp2_with fail
          obtain ⟨rr0, rr1, rr2, rr3, rr4, rr5⟩ := P5.out
          unfold st6b at rr0 rr1 rr2 rr3 rr4 rr5
          refine bodyPost_ret (v := .agg #[.int .i64 o, .int .i64 0, .int .i64 (-1), .int .i64 0, .int .i64 0, .int .i64 z]) (by simp [results, Try.results80, go_sem, rr0, rr1, rr2, rr3, rr4, rr5]) rfl ?_
          exact ⟨⟨_, _, _, _, _, _, rfl⟩, B5'.out⟩
        · have HLN := hid hln
          have e2 : ((ws.length : Int) == 2) = false := by simp; omega
          have e3 : ((ws.length : Int) == 3) = true := by simp; omega
          have e4 : ((ws.length : Int) == 4) = false := by simp; omega
          obtain ⟨x0, x1, x2, x3, x4, x5⟩ := Box6.cells HX.out
          have xl := Box6.lt HX.out
          have xf := Box6.frozen HX.out
          go_wp2_with fail
          clear x0 x1 x2 x3 x4 x5 xl xf
          refine (f49 _ _).mono ?_
          rintro e w' ⟨rfl, hw⟩
          rw [hw]; clear hw w'
          rw [hA]
          obtain ⟨x0, x1, x2, x3, x4, x5⟩ := Box6.cells HX.out
          have xl := Box6.lt HX.out
          have xf := Box6.frozen HX.out
          have cg1 := SL.at' HW.out (show 1 < ws.length by omega) HY1.out
          go_wp2_with fail
          clear x0 x1 x2 x3 x4 x5 xl xf
          clear cg1
          refine (readReg_w y1 _ hy1s).mono ?_
          rintro e wn1 ⟨⟨p1, p2, rfl⟩, bb⟩
          replace HQ := hid (HQ.out.bel bb)
          replace HX := hid (HX.out.bel bb)
          replace HW := hid (HW.out.below bb)
          replace HZ := hid (HZ.out.to bb)
          clear bb
          obtain ⟨x0, x1, x2, x3, x4, x5⟩ := Box6.cells HX.out
          have xl := Box6.lt HX.out
          have xf := Box6.frozen HX.out
          have cg2 := SL.at' HW.out (show 2 < ws.length by omega) HY2.out
          go_wp2_with fail
          clear x0 x1 x2 x3 x4 x5 xl xf
          clear cg2
          refine (readReg_w y2 _ hy2s).mono ?_
          rintro e wn2 ⟨⟨p3, p4, rfl⟩, bb⟩
          replace HQ := hid (HQ.out.bel bb)
          replace HX := hid (HX.out.bel bb)
          replace HW := hid (HW.out.below bb)
          replace HZ := hid (HZ.out.to bb)
          clear bb
          have B5' := hid (st6b_below (B := w.heap.size) (Below.setCell (p := ⟨X, 4, none⟩) (Below.setCell (p := ⟨X, 2, none⟩) (Below.setCell (p := ⟨X, 1, none⟩) HZ.out (by show w.heap.size ≤ X; omega) (.int .i64 p1)) (by show w.heap.size ≤ X; omega) (.int .i64 p3)) (by show w.heap.size ≤ X; omega) (.int .i64 p4)) (Nat.le_refl _) o p1 p3 0 p4 z)
          have P5 := hid (Box6.cells (Box6.st (Box6.setO (Box6.setO (Box6.setO HQ.out X 1 (.int .i64 p1) (by omega)) X 2 (.int .i64 p3) (by omega)) X 4 (.int .i64 p4) (by omega)) o p1 p3 0 p4 z))
          obtain ⟨x0, x1, x2, x3, x4, x5⟩ := Box6.cells HX.out
          have xl := Box6.lt HX.out
          have xf := Box6.frozen HX.out
          obtain ⟨q0, q1, q2, q3, q4, q5⟩ := Box6.cells HQ.out
          have ql := Box6.lt HQ.out
          have qf := Box6.frozen HQ.out
          go_wp2_with fail
          obtain ⟨rr0, rr1, rr2, rr3, rr4, rr5⟩ := P5.out
          unfold st6b at rr0 rr1 rr2 rr3 rr4 rr5
          refine bodyPost_ret (v := .agg #[.int .i64 o, .int .i64 p1, .int .i64 p3, .int .i64 0, .int .i64 p4, .int .i64 z]) (by simp [results, Try.results80, go_sem, rr0, rr1, rr2, rr3, rr4, rr5]) rfl ?_
          exact ⟨⟨_, _, _, _, _, _, rfl⟩, B5'.out⟩
        · have HLN := hid hln
          have e2 : ((ws.length : Int) == 2) = false := by simp; omega
          have e3 : ((ws.length : Int) == 3) = false := by simp; omega
          have e4 : ((ws.length : Int) == 4) = true := by simp; omega
          obtain ⟨x0, x1, x2, x3, x4, x5⟩ := Box6.cells HX.out
          have xl := Box6.lt HX.out
          have xf := Box6.frozen HX.out
          go_wp2_with fail
          clear x0 x1 x2 x3 x4 x5 xl xf
          refine (f49 _ _).mono ?_
          rintro e w' ⟨rfl, hw⟩
          rw [hw]; clear hw w'
          rw [hA]
          obtain ⟨x0, x1, x2, x3, x4, x5⟩ := Box6.cells HX.out
          have xl := Box6.lt HX.out
          have xf := Box6.frozen HX.out
          go_wp2_with fail
          clear x0 x1 x2 x3 x4 x5 xl xf
          refine (f48 _ _).mono ?_
          rintro e w' ⟨rfl, hw⟩
          rw [hw]; clear hw w'
          rw [hJ]
          have B5' := hid (st6b_below (B := w.heap.size) HZ.out (Nat.le_refl _) o 0 (-1) 0 0 z)
          have P5 := hid (Box6.cells (Box6.st HQ.out o 0 (-1) 0 0 z))
          obtain ⟨x0, x1, x2, x3, x4, x5⟩ := Box6.cells HX.out
          have xl := Box6.lt HX.out
          have xf := Box6.frozen HX.out
          obtain ⟨q0, q1, q2, q3, q4, q5⟩ := Box6.cells HQ.out
          have ql := Box6.lt HQ.out
          have qf := Box6.frozen HQ.out
          go_wp2_with fail
          obtain ⟨rr0, rr1, rr2, rr3, rr4, rr5⟩ := P5.out
          unfold st6b at rr0 rr1 rr2 rr3 rr4 rr5
          refine bodyPost_ret (v := .agg #[.int .i64 o, .int .i64 0, .int .i64 (-1), .int .i64 0, .int .i64 0, .int .i64 z]) (by simp [results, Try.results80, go_sem, rr0, rr1, rr2, rr3, rr4, rr5]) rfl ?_
          exact ⟨⟨_, _, _, _, _, _, rfl⟩, B5'.out⟩
        · have HLN := hid hln
          have e2 : ((ws.length : Int) == 2) = false := by simp; omega
          have e3 : ((ws.length : Int) == 3) = false := by simp; omega
          have e4 : ((ws.length : Int) == 4) = false := by simp; omega
          obtain ⟨x0, x1, x2, x3, x4, x5⟩ := Box6.cells HX.out
          have xl := Box6.lt HX.out
          have xf := Box6.frozen HX.out
          go_wp2_with fail
          clear x0 x1 x2 x3 x4 x5 xl xf
          refine (f49 _ _).mono ?_
          rintro e w' ⟨rfl, hw⟩
          rw [hw]; clear hw w'
          rw [hA]
          obtain ⟨x0, x1, x2, x3, x4, x5⟩ := Box6.cells HX.out
          have xl := Box6.lt HX.out
          have xf := Box6.frozen HX.out
          go_wp2_with fail
          clear x0 x1 x2 x3 x4 x5 xl xf
          refine (f48 _ _).mono ?_
          rintro e w' ⟨rfl, hw⟩
          rw [hw]; clear hw w'
          rw [hJ]
          have B5' := hid (st6b_below (B := w.heap.size) HZ.out (Nat.le_refl _) o 0 (-1) 0 0 z)
          have P5 := hid (Box6.cells (Box6.st HQ.out o 0 (-1) 0 0 z))
          obtain ⟨x0, x1, x2, x3, x4, x5⟩ := Box6.cells HX.out
          have xl := Box6.lt HX.out
          have xf := Box6.frozen HX.out
          obtain ⟨q0, q1, q2, q3, q4, q5⟩ := Box6.cells HQ.out
          have ql := Box6.lt HQ.out
          have qf := Box6.frozen HQ.out
          go_wp2_with fail
          obtain ⟨rr0, rr1, rr2, rr3, rr4, rr5⟩ := P5.out
          unfold st6b at rr0 rr1 rr2 rr3 rr4 rr5
          refine bodyPost_ret (v := .agg #[.int .i64 o, .int .i64 0, .int .i64 (-1), .int .i64 0, .int .i64 0, .int .i64 z]) (by simp [results, Try.results80, go_sem, rr0, rr1, rr2, rr3, rr4, rr5]) rfl ?_
          exact ⟨⟨_, _, _, _, _, _, rfl⟩, B5'.out⟩
      · skip
        have hA : inB o 1 11 = false := by simp [inB]; omega
        have hJ : inB o 12 15 = true := by simp [inB]; omega
        have o16 : (o == 16) = false := by simp; omega
        have o17 : (o == 17) = false := by simp; omega
        have o18 : (o == 18) = false := by simp; omega
        have o19 : (o == 19) = false := by simp; omega
        rcases hlc with hln | hln | hln | hln
        · have HLN := hid hln
          have e2 : ((ws.length : Int) == 2) = true := by simp; omega
          have e3 : ((ws.length : Int) == 3) = false := by simp; omega
          have e4 : ((ws.length : Int) == 4) = false := by simp; omega
          obtain ⟨x0, x1, x2, x3, x4, x5⟩ := Box6.cells HX.out
          have xl := Box6.lt HX.out
          have xf := Box6.frozen HX.out
          go_wp2_with fail
          clear x0 x1 x2 x3 x4 x5 xl xf
          refine (f49 _ _).mono ?_
          rintro e w' ⟨rfl, hw⟩
          rw [hw]; clear hw w'
          rw [hA]
          obtain ⟨x0, x1, x2, x3, x4, x5⟩ := Box6.cells HX.out
          have xl := Box6.lt HX.out
          have xf := Box6.frozen HX.out
          go_wp2_with fail
          clear x0 x1 x2 x3 x4 x5 xl xf
          refine (f48 _ _).mono ?_
          rintro e w' ⟨rfl, hw⟩
          rw [hw]; clear hw w'
          rw [hJ]
          have B5' := hid (st6b_below (B := w.heap.size) HZ.out (Nat.le_refl _) o 0 (-1) 0 0 z)
          have P5 := hid (Box6.cells (Box6.st HQ.out o 0 (-1) 0 0 z))
          obtain ⟨x0, x1, x2, x3, x4, x5⟩ := Box6.cells HX.out
          have xl := Box6.lt HX.out
          have xf := Box6.frozen HX.out
          obtain ⟨q0, q1, q2, q3, q4, q5⟩ := Box6.cells HQ.out
          have ql := Box6.lt HQ.out
          have qf := Box6.frozen HQ.out
          go_wp2_with fail
          obtain ⟨rr0, rr1, rr2, rr3, rr4, rr5⟩ := P5.out
          unfold st6b at rr0 rr1 rr2 rr3 rr4 rr5
          refine bodyPost_ret (v := .agg #[.int .i64 o, .int .i64 0, .int .i64 (-1), .int .i64 0, .int .i64 0, .int .i64 z]) (by simp [results, Try.results80, go_sem, rr0, rr1, rr2, rr3, rr4, rr5]) rfl ?_
          exact ⟨⟨_, _, _, _, _, _, rfl⟩, B5'.out⟩
        · have HLN := hid hln
          have e2 : ((ws.length : Int) == 2) = false := by simp; omega
          have e3 : ((ws.length : Int) == 3) = true := by simp; omega
          have e4 : ((ws.length : Int) == 4) = false := by simp; omega
          obtain ⟨x0, x1, x2, x3, x4, x5⟩ := Box6.cells HX.out
          have xl := Box6.lt HX.out
          have xf := Box6.frozen HX.out
          go_wp2_with fail
          clear x0 x1 x2 x3 x4 x5 xl xf
          refine (f49 _ _).mono ?_
          rintro e w' ⟨rfl, hw⟩
          rw [hw]; clear hw w'
          rw [hA]
          obtain ⟨x0, x1, x2, x3, x4, x5⟩ := Box6.cells HX.out
          have xl := Box6.lt HX.out
          have xf := Box6.frozen HX.out
          go_wp2_with fail
          clear x0 x1 x2 x3 x4 x5 xl xf
          refine (f48 _ _).mono ?_
          rintro e w' ⟨rfl, hw⟩
          rw [hw]; clear hw w'
          rw [hJ]
          have B5' := hid (st6b_below (B := w.heap.size) HZ.out (Nat.le_refl _) o 0 (-1) 0 0 z)
          have P5 := hid (Box6.cells (Box6.st HQ.out o 0 (-1) 0 0 z))
          obtain ⟨x0, x1, x2, x3, x4, x5⟩ := Box6.cells HX.out
          have xl := Box6.lt HX.out
          have xf := Box6.frozen HX.out
          obtain ⟨q0, q1, q2, q3, q4, q5⟩ := Box6.cells HQ.out
          have ql := Box6.lt HQ.out
          have qf := Box6.frozen HQ.out
          go_wp2_with fail
          obtain ⟨rr0, rr1, rr2, rr3, rr4, rr5⟩ := P5.out
          unfold st6b at rr0 rr1 rr2 rr3 rr4 rr5
          refine bodyPost_ret (v := .agg #[.int .i64 o, .int .i64 0, .int .i64 (-1), .int .i64 0, .int .i64 0, .int .i64 z]) (by simp [results, Try.results80, go_sem, rr0, rr1, rr2, rr3, rr4, rr5]) rfl ?_
          exact ⟨⟨_, _, _, _, _, _, rfl⟩, B5'.out⟩
        · have HLN := hid hln
          have e2 : ((ws.length : Int) == 2) = false := by simp; omega
          have e3 : ((ws.length : Int) == 3) = false := by simp; omega
          have e4 : ((ws.length : Int) == 4) = true := by simp; omega
          obtain ⟨x0, x1, x2, x3, x4, x5⟩ := Box6.cells HX.out
          have xl := Box6.lt HX.out
          have xf := Box6.frozen HX.out
          go_wp2_with fail
          clear x0 x1 x2 x3 x4 x5 xl xf
          refine (f49 _ _).mono ?_
          rintro e w' ⟨rfl, hw⟩
          rw [hw]; clear hw w'
          rw [hA]
          obtain ⟨x0, x1, x2, x3, x4, x5⟩ := Box6.cells HX.out
          have xl := Box6.lt HX.out
          have xf := Box6.frozen HX.out
          go_wp2_with fail
          clear x0 x1 x2 x3 x4 x5 xl xf
          refine (f48 _ _).mono ?_
          rintro e w' ⟨rfl, hw⟩
          rw [hw]; clear hw w'
          rw [hJ]
          obtain ⟨x0, x1, x2, x3, x4, x5⟩ := Box6.cells HX.out
          have xl := Box6.lt HX.out
          have xf := Box6.frozen HX.out
          have cg1 := SL.at' HW.out (show 1 < ws.length by omega) HY1.out
          go_wp2_with fail
          clear x0 x1 x2 x3 x4 x5 xl xf
          clear cg1
          refine (readReg_w y1 _ hy1s).mono ?_
          rintro e wn1 ⟨⟨p1, p2, rfl⟩, bb⟩
          replace HQ := hid (HQ.out.bel bb)
          replace HX := hid (HX.out.bel bb)
          replace HW := hid (HW.out.below bb)
          replace HZ := hid (HZ.out.to bb)
          clear bb
          obtain ⟨x0, x1, x2, x3, x4, x5⟩ := Box6.cells HX.out
          have xl := Box6.lt HX.out
          have xf := Box6.frozen HX.out
          have cg2 := SL.at' HW.out (show 2 < ws.length by omega) HY2.out
          go_wp2_with fail
          clear x0 x1 x2 x3 x4 x5 xl xf
          clear cg2
          refine (readReg_w y2 _ hy2s).mono ?_
          rintro e wn2 ⟨⟨p3, p4, rfl⟩, bb⟩
          replace HQ := hid (HQ.out.bel bb)
          replace HX := hid (HX.out.bel bb)
          replace HW := hid (HW.out.below bb)
          replace HZ := hid (HZ.out.to bb)
          clear bb
          obtain ⟨x0, x1, x2, x3, x4, x5⟩ := Box6.cells HX.out
          have xl := Box6.lt HX.out
          have xf := Box6.frozen HX.out
          have cg3 := SL.at' HW.out (show 3 < ws.length by omega) HY3.out
          go_wp2_with fail
          clear x0 x1 x2 x3 x4 x5 xl xf
          clear cg3
          have h1 := (Box6.set4 p4 (Box6.set2 p3 (Box6.set1 p1 HX.out)))
          have h2 := (Box6.setO (Box6.setO (Box6.setO HQ.out X 1 (.int .i64 p1) (by omega)) X 2 (.int .i64 p3) (by omega)) X 4 (.int .i64 p4) (by omega))
          have h3 := (SL.set (C := X) (j := 4) (SL.set (C := X) (j := 2) (SL.set (C := X) (j := 1) HW.out (.int .i64 p1) (by omega)) (.int .i64 p3) (by omega)) (.int .i64 p4) (by omega))
          have h4 := (Below.setCell (p := ⟨X, 4, none⟩) (Below.setCell (p := ⟨X, 2, none⟩) (Below.setCell (p := ⟨X, 1, none⟩) HZ.out (by show w.heap.size ≤ X; omega) (.int .i64 p1)) (by show w.heap.size ≤ X; omega) (.int .i64 p3)) (by show w.heap.size ≤ X; omega) (.int .i64 p4))
          generalize (((wn2.setCell ⟨X, 1, none⟩ (.int .i64 p1)).setCell ⟨X, 2, none⟩ (.int .i64 p3)).setCell ⟨X, 4, none⟩ (.int .i64 p4)) = wn3 at *
          replace HX := hid h1
          replace HQ := hid h2
          replace HW := hid h3
          replace HZ := hid h4
          clear h1 h2 h3 h4
          refine (signed_w y3 _ hy3s).mono ?_
          rintro e wn4 ⟨⟨p5, rfl⟩, bb⟩
          replace HQ := hid (HQ.out.bel bb)
          replace HX := hid (HX.out.bel bb)
          replace HW := hid (HW.out.below bb)
          replace HZ := hid (HZ.out.to bb)
          clear bb
          have B5' := hid (st6b_below (B := w.heap.size) (Below.setCell (p := ⟨X, 3, none⟩) HZ.out (by show w.heap.size ≤ X; omega) (.int .i64 p5)) (Nat.le_refl _) o p1 p3 p5 p4 z)
          have P5 := hid (Box6.cells (Box6.st (Box6.setO HQ.out X 3 (.int .i64 p5) (by omega)) o p1 p3 p5 p4 z))
          obtain ⟨x0, x1, x2, x3, x4, x5⟩ := Box6.cells HX.out
          have xl := Box6.lt HX.out
          have xf := Box6.frozen HX.out
          obtain ⟨q0, q1, q2, q3, q4, q5⟩ := Box6.cells HQ.out
          have ql := Box6.lt HQ.out
          have qf := Box6.frozen HQ.out
          go_wp2_with fail
          obtain ⟨rr0, rr1, rr2, rr3, rr4, rr5⟩ := P5.out
          unfold st6b at rr0 rr1 rr2 rr3 rr4 rr5
          refine bodyPost_ret (v := .agg #[.int .i64 o, .int .i64 p1, .int .i64 p3, .int .i64 p5, .int .i64 p4, .int .i64 z]) (by simp [results, Try.results80, go_sem, rr0, rr1, rr2, rr3, rr4, rr5]) rfl ?_
          exact ⟨⟨_, _, _, _, _, _, rfl⟩, B5'.out⟩
        · have HLN := hid hln
          have e2 : ((ws.length : Int) == 2) = false := by simp; omega
          have e3 : ((ws.length : Int) == 3) = false := by simp; omega
          have e4 : ((ws.length : Int) == 4) = false := by simp; omega
          obtain ⟨x0, x1, x2, x3, x4, x5⟩ := Box6.cells HX.out
          have xl := Box6.lt HX.out
          have xf := Box6.frozen HX.out
          go_wp2_with fail
          clear x0 x1 x2 x3 x4 x5 xl xf
          refine (f49 _ _).mono ?_
          rintro e w' ⟨rfl, hw⟩
          rw [hw]; clear hw w'
          rw [hA]
          obtain ⟨x0, x1, x2, x3, x4, x5⟩ := Box6.cells HX.out
          have xl := Box6.lt HX.out
          have xf := Box6.frozen HX.out
          go_wp2_with fail
          clear x0 x1 x2 x3 x4 x5 xl xf
          refine (f48 _ _).mono ?_
          rintro e w' ⟨rfl, hw⟩
          rw [hw]; clear hw w'
          rw [hJ]
          have B5' := hid (st6b_below (B := w.heap.size) HZ.out (Nat.le_refl _) o 0 (-1) 0 0 z)
          have P5 := hid (Box6.cells (Box6.st HQ.out o 0 (-1) 0 0 z))
          obtain ⟨x0, x1, x2, x3, x4, x5⟩ := Box6.cells HX.out
          have xl := Box6.lt HX.out
          have xf := Box6.frozen HX.out
          obtain ⟨q0, q1, q2, q3, q4, q5⟩ := Box6.cells HQ.out
          have ql := Box6.lt HQ.out
          have qf := Box6.frozen HQ.out
          go_wp2_with fail
          obtain ⟨rr0, rr1, rr2, rr3, rr4, rr5⟩ := P5.out
          unfold st6b at rr0 rr1 rr2 rr3 rr4 rr5
          refine bodyPost_ret (v := .agg #[.int .i64 o, .int .i64 0, .int .i64 (-1), .int .i64 0, .int .i64 0, .int .i64 z]) (by simp [results, Try.results80, go_sem, rr0, rr1, rr2, rr3, rr4, rr5]) rfl ?_
          exact ⟨⟨_, _, _, _, _, _, rfl⟩, B5'.out⟩
      · skip
        have hA : inB 16 1 11 = false := by decide
        have hJ : inB 16 12 15 = false := by decide
        rcases hlc with hln | hln | hln | hln
        · have HLN := hid hln
          have e2 : ((ws.length : Int) == 2) = true := by simp; omega
          have e3 : ((ws.length : Int) == 3) = false := by simp; omega
          have e4 : ((ws.length : Int) == 4) = false := by simp; omega
          obtain ⟨x0, x1, x2, x3, x4, x5⟩ := Box6.cells HX.out
          have xl := Box6.lt HX.out
          have xf := Box6.frozen HX.out
          go_wp2_with fail
          clear x0 x1 x2 x3 x4 x5 xl xf
          refine (f49 _ _).mono ?_
          rintro e w' ⟨rfl, hw⟩
          rw [hw]; clear hw w'
          rw [hA]
          obtain ⟨x0, x1, x2, x3, x4, x5⟩ := Box6.cells HX.out
          have xl := Box6.lt HX.out
          have xf := Box6.frozen HX.out
          go_wp2_with fail
          clear x0 x1 x2 x3 x4 x5 xl xf
          refine (f48 _ _).mono ?_
          rintro e w' ⟨rfl, hw⟩
          rw [hw]; clear hw w'
          rw [hJ]
          obtain ⟨x0, x1, x2, x3, x4, x5⟩ := Box6.cells HX.out
          have xl := Box6.lt HX.out
          have xf := Box6.frozen HX.out
          have cg1 := SL.at' HW.out (show 1 < ws.length by omega) HY1.out
          go_wp2_with fail
          clear x0 x1 x2 x3 x4 x5 xl xf
          clear cg1
          refine (signed_w y1 _ hy1s).mono ?_
          rintro e wn1 ⟨⟨p5, rfl⟩, bb⟩
          replace HQ := hid (HQ.out.bel bb)
          replace HX := hid (HX.out.bel bb)
          replace HW := hid (HW.out.below bb)
          replace HZ := hid (HZ.out.to bb)
          clear bb
          have B5' := hid (st6b_below (B := w.heap.size) (Below.setCell (p := ⟨X, 3, none⟩) HZ.out (by show w.heap.size ≤ X; omega) (.int .i64 p5)) (Nat.le_refl _) 16 0 (-1) p5 0 z)
          have P5 := hid (Box6.cells (Box6.st (Box6.setO HQ.out X 3 (.int .i64 p5) (by omega)) 16 0 (-1) p5 0 z))
          obtain ⟨x0, x1, x2, x3, x4, x5⟩ := Box6.cells HX.out
          have xl := Box6.lt HX.out
          have xf := Box6.frozen HX.out
          obtain ⟨q0, q1, q2, q3, q4, q5⟩ := Box6.cells HQ.out
          have ql := Box6.lt HQ.out
          have qf := Box6.frozen HQ.out
          go_wp2_with fail
          obtain ⟨rr0, rr1, rr2, rr3, rr4, rr5⟩ := P5.out
          unfold st6b at rr0 rr1 rr2 rr3 rr4 rr5
          refine bodyPost_ret (v := .agg #[.int .i64 16, .int .i64 0, .int .i64 (-1), .int .i64 p5, .int .i64 0, .int .i64 z]) (by simp [results, Try.results80, go_sem, rr0, rr1, rr2, rr3, rr4, rr5]) rfl ?_
          exact ⟨⟨_, _, _, _, _, _, rfl⟩, B5'.out⟩
        · have HLN := hid hln
          have e2 : ((ws.length : Int) == 2) = false := by simp; omega
          have e3 : ((ws.length : Int) == 3) = true := by simp; omega
          have e4 : ((ws.length : Int) == 4) = false := by simp; omega
          obtain ⟨x0, x1, x2, x3, x4, x5⟩ := Box6.cells HX.out
          have xl := Box6.lt HX.out
          have xf := Box6.frozen HX.out
          go_wp2_with fail
          clear x0 x1 x2 x3 x4 x5 xl xf
          refine (f49 _ _).mono ?_
          rintro e w' ⟨rfl, hw⟩
          rw [hw]; clear hw w'
          rw [hA]
          obtain ⟨x0, x1, x2, x3, x4, x5⟩ := Box6.cells HX.out
          have xl := Box6.lt HX.out
          have xf := Box6.frozen HX.out
          go_wp2_with fail
          clear x0 x1 x2 x3 x4 x5 xl xf
          refine (f48 _ _).mono ?_
          rintro e w' ⟨rfl, hw⟩
          rw [hw]; clear hw w'
          rw [hJ]
          have B5' := hid (st6b_below (B := w.heap.size) HZ.out (Nat.le_refl _) 16 0 (-1) 0 0 z)
          have P5 := hid (Box6.cells (Box6.st HQ.out 16 0 (-1) 0 0 z))
          obtain ⟨x0, x1, x2, x3, x4, x5⟩ := Box6.cells HX.out
          have xl := Box6.lt HX.out
          have xf := Box6.frozen HX.out
          obtain ⟨q0, q1, q2, q3, q4, q5⟩ := Box6.cells HQ.out
          have ql := Box6.lt HQ.out
          have qf := Box6.frozen HQ.out
          go_wp2_with fail
          obtain ⟨rr0, rr1, rr2, rr3, rr4, rr5⟩ := P5.out
          unfold st6b at rr0 rr1 rr2 rr3 rr4 rr5
          refine bodyPost_ret (v := .agg #[.int .i64 16, .int .i64 0, .int .i64 (-1), .int .i64 0, .int .i64 0, .int .i64 z]) (by simp [results, Try.results80, go_sem, rr0, rr1, rr2, rr3, rr4, rr5]) rfl ?_
          exact ⟨⟨_, _, _, _, _, _, rfl⟩, B5'.out⟩
        · have HLN := hid hln
          have e2 : ((ws.length : Int) == 2) = false := by simp; omega
          have e3 : ((ws.length : Int) == 3) = false := by simp; omega
          have e4 : ((ws.length : Int) == 4) = true := by simp; omega
          obtain ⟨x0, x1, x2, x3, x4, x5⟩ := Box6.cells HX.out
          have xl := Box6.lt HX.out
          have xf := Box6.frozen HX.out
          go_wp2_with fail
          clear x0 x1 x2 x3 x4 x5 xl xf
          refine (f49 _ _).mono ?_
          rintro e w' ⟨rfl, hw⟩
          rw [hw]; clear hw w'
          rw [hA]
          obtain ⟨x0, x1, x2, x3, x4, x5⟩ := Box6.cells HX.out
          have xl := Box6.lt HX.out
          have xf := Box6.frozen HX.out
          go_wp2_with fail
          clear x0 x1 x2 x3 x4 x5 xl xf
          refine (f48 _ _).mono ?_
          rintro e w' ⟨rfl, hw⟩
          rw [hw]; clear hw w'
          rw [hJ]
          have B5' := hid (st6b_below (B := w.heap.size) HZ.out (Nat.le_refl _) 16 0 (-1) 0 0 z)
          have P5 := hid (Box6.cells (Box6.st HQ.out 16 0 (-1) 0 0 z))
          obtain ⟨x0, x1, x2, x3, x4, x5⟩ := Box6.cells HX.out
          have xl := Box6.lt HX.out
          have xf := Box6.frozen HX.out
          obtain ⟨q0, q1, q2, q3, q4, q5⟩ := Box6.cells HQ.out
          have ql := Box6.lt HQ.out
          have qf := Box6.frozen HQ.out
          go_wp2_with fail
          obtain ⟨rr0, rr1, rr2, rr3, rr4, rr5⟩ := P5.out
          unfold st6b at rr0 rr1 rr2 rr3 rr4 rr5
          refine bodyPost_ret (v := .agg #[.int .i64 16, .int .i64 0, .int .i64 (-1), .int .i64 0, .int .i64 0, .int .i64 z]) (by simp [results, Try.results80, go_sem, rr0, rr1, rr2, rr3, rr4, rr5]) rfl ?_
          exact ⟨⟨_, _, _, _, _, _, rfl⟩, B5'.out⟩
        · have HLN := hid hln
          have e2 : ((ws.length : Int) == 2) = false := by simp; omega
          have e3 : ((ws.length : Int) == 3) = false := by simp; omega
          have e4 : ((ws.length : Int) == 4) = false := by simp; omega
          obtain ⟨x0, x1, x2, x3, x4, x5⟩ := Box6.cells HX.out
          have xl := Box6.lt HX.out
          have xf := Box6.frozen HX.out
          go_wp2_with fail
          clear x0 x1 x2 x3 x4 x5 xl xf
          refine (f49 _ _).mono ?_
          rintro e w' ⟨rfl, hw⟩
          rw [hw]; clear hw w'
          rw [hA]
          obtain ⟨x0, x1, x2, x3, x4, x5⟩ := Box6.cells HX.out
          have xl := Box6.lt HX.out
          have xf := Box6.frozen HX.out
          go_wp2_with fail
          clear x0 x1 x2 x3 x4 x5 xl xf
          refine (f48 _ _).mono ?_
          rintro e w' ⟨rfl, hw⟩
          rw [hw]; clear hw w'
          rw [hJ]
          have B5' := hid (st6b_below (B := w.heap.size) HZ.out (Nat.le_refl _) 16 0 (-1) 0 0 z)
          have P5 := hid (Box6.cells (Box6.st HQ.out 16 0 (-1) 0 0 z))
          obtain ⟨x0, x1, x2, x3, x4, x5⟩ := Box6.cells HX.out
          have xl := Box6.lt HX.out
          have xf := Box6.frozen HX.out
          obtain ⟨q0, q1, q2, q3, q4, q5⟩ := Box6.cells HQ.out
          have ql := Box6.lt HQ.out
          have qf := Box6.frozen HQ.out
          go_wp2_with fail
          obtain ⟨rr0, rr1, rr2, rr3, rr4, rr5⟩ := P5.out
          unfold st6b at rr0 rr1 rr2 rr3 rr4 rr5
          refine bodyPost_ret (v := .agg #[.int .i64 16, .int .i64 0, .int .i64 (-1), .int .i64 0, .int .i64 0, .int .i64 z]) (by simp [results, Try.results80, go_sem, rr0, rr1, rr2, rr3, rr4, rr5]) rfl ?_
          exact ⟨⟨_, _, _, _, _, _, rfl⟩, B5'.out⟩
      · skip
        have hA : inB 17 1 11 = false := by decide
        have hJ : inB 17 12 15 = false := by decide
        rcases hlc with hln | hln | hln | hln
        · have HLN := hid hln
          have e2 : ((ws.length : Int) == 2) = true := by simp; omega
          have e3 : ((ws.length : Int) == 3) = false := by simp; omega
          have e4 : ((ws.length : Int) == 4) = false := by simp; omega
          obtain ⟨x0, x1, x2, x3, x4, x5⟩ := Box6.cells HX.out
          have xl := Box6.lt HX.out
          have xf := Box6.frozen HX.out
          go_wp2_with fail
          clear x0 x1 x2 x3 x4 x5 xl xf
          refine (f49 _ _).mono ?_
          rintro e w' ⟨rfl, hw⟩
          rw [hw]; clear hw w'
          rw [hA]
          obtain ⟨x0, x1, x2, x3, x4, x5⟩ := Box6.cells HX.out
          have xl := Box6.lt HX.out
          have xf := Box6.frozen HX.out
          go_wp2_with fail
          clear x0 x1 x2 x3 x4 x5 xl xf
          refine (f48 _ _).mono ?_
          rintro e w' ⟨rfl, hw⟩
          rw [hw]; clear hw w'
          rw [hJ]
          have B5' := hid (st6b_below (B := w.heap.size) HZ.out (Nat.le_refl _) 17 0 (-1) 0 0 z)
          have P5 := hid (Box6.cells (Box6.st HQ.out 17 0 (-1) 0 0 z))
          obtain ⟨x0, x1, x2, x3, x4, x5⟩ := Box6.cells HX.out
          have xl := Box6.lt HX.out
          have xf := Box6.frozen HX.out
          obtain ⟨q0, q1, q2, q3, q4, q5⟩ := Box6.cells HQ.out
          have ql := Box6.lt HQ.out
          have qf := Box6.frozen HQ.out
          go_wp2_with fail
          obtain ⟨rr0, rr1, rr2, rr3, rr4, rr5⟩ := P5.out
          unfold st6b at rr0 rr1 rr2 rr3 rr4 rr5
          refine bodyPost_ret (v := .agg #[.int .i64 17, .int .i64 0, .int .i64 (-1), .int .i64 0, .int .i64 0, .int .i64 z]) (by simp [results, Try.results80, go_sem, rr0, rr1, rr2, rr3, rr4, rr5]) rfl ?_
          exact ⟨⟨_, _, _, _, _, _, rfl⟩, B5'.out⟩
        · have HLN := hid hln
          have e2 : ((ws.length : Int) == 2) = false := by simp; omega
          have e3 : ((ws.length : Int) == 3) = true := by simp; omega
          have e4 : ((ws.length : Int) == 4) = false := by simp; omega
          obtain ⟨x0, x1, x2, x3, x4, x5⟩ := Box6.cells HX.out
          have xl := Box6.lt HX.out
          have xf := Box6.frozen HX.out
          go_wp2_with fail
          clear x0 x1 x2 x3 x4 x5 xl xf
          refine (f49 _ _).mono ?_
          rintro e w' ⟨rfl, hw⟩
          rw [hw]; clear hw w'
          rw [hA]
          obtain ⟨x0, x1, x2, x3, x4, x5⟩ := Box6.cells HX.out
          have xl := Box6.lt HX.out
          have xf := Box6.frozen HX.out
          go_wp2_with fail
          clear x0 x1 x2 x3 x4 x5 xl xf
          refine (f48 _ _).mono ?_
          rintro e w' ⟨rfl, hw⟩
          rw [hw]; clear hw w'
          rw [hJ]
          have B5' := hid (st6b_below (B := w.heap.size) HZ.out (Nat.le_refl _) 17 0 (-1) 0 0 z)
          have P5 := hid (Box6.cells (Box6.st HQ.out 17 0 (-1) 0 0 z))
          obtain ⟨x0, x1, x2, x3, x4, x5⟩ := Box6.cells HX.out
          have xl := Box6.lt HX.out
          have xf := Box6.frozen HX.out
          obtain ⟨q0, q1, q2, q3, q4, q5⟩ := Box6.cells HQ.out
          have ql := Box6.lt HQ.out
          have qf := Box6.frozen HQ.out
          go_wp2_with fail
          obtain ⟨rr0, rr1, rr2, rr3, rr4, rr5⟩ := P5.out
          unfold st6b at rr0 rr1 rr2 rr3 rr4 rr5
          refine bodyPost_ret (v := .agg #[.int .i64 17, .int .i64 0, .int .i64 (-1), .int .i64 0, .int .i64 0, .int .i64 z]) (by simp [results, Try.results80, go_sem, rr0, rr1, rr2, rr3, rr4, rr5]) rfl ?_
          exact ⟨⟨_, _, _, _, _, _, rfl⟩, B5'.out⟩
        · have HLN := hid hln
          have e2 : ((ws.length : Int) == 2) = false := by simp; omega
          have e3 : ((ws.length : Int) == 3) = false := by simp; omega
          have e4 : ((ws.length : Int) == 4) = true := by simp; omega
          obtain ⟨x0, x1, x2, x3, x4, x5⟩ := Box6.cells HX.out
          have xl := Box6.lt HX.out
          have xf := Box6.frozen HX.out
          go_wp2_with fail
          clear x0 x1 x2 x3 x4 x5 xl xf
          refine (f49 _ _).mono ?_
          rintro e w' ⟨rfl, hw⟩
          rw [hw]; clear hw w'
          rw [hA]
          obtain ⟨x0, x1, x2, x3, x4, x5⟩ := Box6.cells HX.out
          have xl := Box6.lt HX.out
          have xf := Box6.frozen HX.out
          go_wp2_with fail
          clear x0 x1 x2 x3 x4 x5 xl xf
          refine (f48 _ _).mono ?_
          rintro e w' ⟨rfl, hw⟩
          rw [hw]; clear hw w'
          rw [hJ]
          obtain ⟨x0, x1, x2, x3, x4, x5⟩ := Box6.cells HX.out
          have xl := Box6.lt HX.out
          have xf := Box6.frozen HX.out
          have cg1 := SL.at' HW.out (show 1 < ws.length by omega) HY1.out
          go_wp2_with fail
          clear x0 x1 x2 x3 x4 x5 xl xf
          clear cg1
          refine (readReg_w y1 _ hy1s).mono ?_
          rintro e wn1 ⟨⟨p1, p2, rfl⟩, bb⟩
          replace HQ := hid (HQ.out.bel bb)
          replace HX := hid (HX.out.bel bb)
          replace HW := hid (HW.out.below bb)
          replace HZ := hid (HZ.out.to bb)
          clear bb
          obtain ⟨x0, x1, x2, x3, x4, x5⟩ := Box6.cells HX.out
          have xl := Box6.lt HX.out
          have xf := Box6.frozen HX.out
          have cg2 := SL.at' HW.out (show 2 < ws.length by omega) HY2.out
          go_wp2_with fail
          clear x0 x1 x2 x3 x4 x5 xl xf
          clear cg2
          refine (readReg_w y2 _ hy2s).mono ?_
          rintro e wn2 ⟨⟨p3, p4, rfl⟩, bb⟩
          replace HQ := hid (HQ.out.bel bb)
          replace HX := hid (HX.out.bel bb)
          replace HW := hid (HW.out.below bb)
          replace HZ := hid (HZ.out.to bb)
          clear bb
          obtain ⟨x0, x1, x2, x3, x4, x5⟩ := Box6.cells HX.out
          have xl := Box6.lt HX.out
          have xf := Box6.frozen HX.out
          have cg3 := SL.at' HW.out (show 3 < ws.length by omega) HY3.out
          go_wp2_with fail
          clear x0 x1 x2 x3 x4 x5 xl xf
          clear cg3
          have h1 := (Box6.set2 p3 (Box6.set1 p1 HX.out))
          have h2 := (Box6.setO (Box6.setO HQ.out X 1 (.int .i64 p1) (by omega)) X 2 (.int .i64 p3) (by omega))
          have h3 := (SL.set (C := X) (j := 2) (SL.set (C := X) (j := 1) HW.out (.int .i64 p1) (by omega)) (.int .i64 p3) (by omega))
          have h4 := (Below.setCell (p := ⟨X, 2, none⟩) (Below.setCell (p := ⟨X, 1, none⟩) HZ.out (by show w.heap.size ≤ X; omega) (.int .i64 p1)) (by show w.heap.size ≤ X; omega) (.int .i64 p3))
          generalize ((wn2.setCell ⟨X, 1, none⟩ (.int .i64 p1)).setCell ⟨X, 2, none⟩ (.int .i64 p3)) = wn3 at *
          replace HX := hid h1
          replace HQ := hid h2
          replace HW := hid h3
          replace HZ := hid h4
          clear h1 h2 h3 h4
          refine (signed_w y3 _ hy3s).mono ?_
          rintro e wn4 ⟨⟨p5, rfl⟩, bb⟩
          replace HQ := hid (HQ.out.bel bb)
          replace HX := hid (HX.out.bel bb)
          replace HW := hid (HW.out.below bb)
          replace HZ := hid (HZ.out.to bb)
          clear bb
          have B5' := hid (st6b_below (B := w.heap.size) (Below.setCell (p := ⟨X, 3, none⟩) HZ.out (by show w.heap.size ≤ X; omega) (.int .i64 p5)) (Nat.le_refl _) 17 p1 p3 p5 0 z)
          have P5 := hid (Box6.cells (Box6.st (Box6.setO HQ.out X 3 (.int .i64 p5) (by omega)) 17 p1 p3 p5 0 z))
          obtain ⟨x0, x1, x2, x3, x4, x5⟩ := Box6.cells HX.out
          have xl := Box6.lt HX.out
          have xf := Box6.frozen HX.out
          obtain ⟨q0, q1, q2, q3, q4, q5⟩ := Box6.cells HQ.out
          have ql := Box6.lt HQ.out
          have qf := Box6.frozen HQ.out
          go_wp2_with fail
          obtain ⟨rr0, rr1, rr2, rr3, rr4, rr5⟩ := P5.out
          unfold st6b at rr0 rr1 rr2 rr3 rr4 rr5
          refine bodyPost_ret (v := .agg #[.int .i64 17, .int .i64 p1, .int .i64 p3, .int .i64 p5, .int .i64 0, .int .i64 z]) (by simp [results, Try.results80, go_sem, rr0, rr1, rr2, rr3, rr4, rr5]) rfl ?_
          exact ⟨⟨_, _, _, _, _, _, rfl⟩, B5'.out⟩
        · have HLN := hid hln
          have e2 : ((ws.length : Int) == 2) = false := by simp; omega
          have e3 : ((ws.length : Int) == 3) = false := by simp; omega
          have e4 : ((ws.length : Int) == 4) = false := by simp; omega
          obtain ⟨x0, x1, x2, x3, x4, x5⟩ := Box6.cells HX.out
          have xl := Box6.lt HX.out
          have xf := Box6.frozen HX.out
          go_wp2_with fail
          clear x0 x1 x2 x3 x4 x5 xl xf
          refine (f49 _ _).mono ?_
          rintro e w' ⟨rfl, hw⟩
          rw [hw]; clear hw w'
          rw [hA]
          obtain ⟨x0, x1, x2, x3, x4, x5⟩ := Box6.cells HX.out
          have xl := Box6.lt HX.out
          have xf := Box6.frozen HX.out
          go_wp2_with fail
          clear x0 x1 x2 x3 x4 x5 xl xf
          refine (f48 _ _).mono ?_
          rintro e w' ⟨rfl, hw⟩
          rw [hw]; clear hw w'
          rw [hJ]
          have B5' := hid (st6b_below (B := w.heap.size) HZ.out (Nat.le_refl _) 17 0 (-1) 0 0 z)
          have P5 := hid (Box6.cells (Box6.st HQ.out 17 0 (-1) 0 0 z))
          obtain ⟨x0, x1, x2, x3, x4, x5⟩ := Box6.cells HX.out
          have xl := Box6.lt HX.out
          have xf := Box6.frozen HX.out
          obtain ⟨q0, q1, q2, q3, q4, q5⟩ := Box6.cells HQ.out
          have ql := Box6.lt HQ.out
          have qf := Box6.frozen HQ.out
          go_wp2_with fail
          obtain ⟨rr0, rr1, rr2, rr3, rr4, rr5⟩ := P5.out
          unfold st6b at rr0 rr1 rr2 rr3 rr4 rr5
          refine bodyPost_ret (v := .agg #[.int .i64 17, .int .i64 0, .int .i64 (-1), .int .i64 0, .int .i64 0, .int .i64 z]) (by simp [results, Try.results80, go_sem, rr0, rr1, rr2, rr3, rr4, rr5]) rfl ?_
          exact ⟨⟨_, _, _, _, _, _, rfl⟩, B5'.out⟩
      · skip
        have hA : inB 18 1 11 = false := by decide
        have hJ : inB 18 12 15 = false := by decide
        rcases hlc with hln | hln | hln | hln
        · have HLN := hid hln
          have e2 : ((ws.length : Int) == 2) = true := by simp; omega
          have e3 : ((ws.length : Int) == 3) = false := by simp; omega
          have e4 : ((ws.length : Int) == 4) = false := by simp; omega
          obtain ⟨x0, x1, x2, x3, x4, x5⟩ := Box6.cells HX.out
          have xl := Box6.lt HX.out
          have xf := Box6.frozen HX.out
          go_wp2_with fail
          clear x0 x1 x2 x3 x4 x5 xl xf
          refine (f49 _ _).mono ?_
          rintro e w' ⟨rfl, hw⟩
          rw [hw]; clear hw w'
          rw [hA]
          obtain ⟨x0, x1, x2, x3, x4, x5⟩ := Box6.cells HX.out
          have xl := Box6.lt HX.out
          have xf := Box6.frozen HX.out
          go_wp2_with fail
          clear x0 x1 x2 x3 x4 x5 xl xf
          refine (f48 _ _).mono ?_
          rintro e w' ⟨rfl, hw⟩
          rw [hw]; clear hw w'
          rw [hJ]
          have B5' := hid (st6b_below (B := w.heap.size) HZ.out (Nat.le_refl _) 18 0 (-1) 0 0 z)
          have P5 := hid (Box6.cells (Box6.st HQ.out 18 0 (-1) 0 0 z))
          obtain ⟨x0, x1, x2, x3, x4, x5⟩ := Box6.cells HX.out
          have xl := Box6.lt HX.out
          have xf := Box6.frozen HX.out
          obtain ⟨q0, q1, q2, q3, q4, q5⟩ := Box6.cells HQ.out
          have ql := Box6.lt HQ.out
          have qf := Box6.frozen HQ.out
          go_wp2_with fail
          obtain ⟨rr0, rr1, rr2, rr3, rr4, rr5⟩ := P5.out
          unfold st6b at rr0 rr1 rr2 rr3 rr4 rr5
          refine bodyPost_ret (v := .agg #[.int .i64 18, .int .i64 0, .int .i64 (-1), .int .i64 0, .int .i64 0, .int .i64 z]) (by simp [results, Try.results80, go_sem, rr0, rr1, rr2, rr3, rr4, rr5]) rfl ?_
          exact ⟨⟨_, _, _, _, _, _, rfl⟩, B5'.out⟩
        · have HLN := hid hln
          have e2 : ((ws.length : Int) == 2) = false := by simp; omega
          have e3 : ((ws.length : Int) == 3) = true := by simp; omega
          have e4 : ((ws.length : Int) == 4) = false := by simp; omega
          obtain ⟨x0, x1, x2, x3, x4, x5⟩ := Box6.cells HX.out
          have xl := Box6.lt HX.out
          have xf := Box6.frozen HX.out
          go_wp2_with fail
          clear x0 x1 x2 x3 x4 x5 xl xf
          refine (f49 _ _).mono ?_
          rintro e w' ⟨rfl, hw⟩
          rw [hw]; clear hw w'
          rw [hA]
          obtain ⟨x0, x1, x2, x3, x4, x5⟩ := Box6.cells HX.out
          have xl := Box6.lt HX.out
          have xf := Box6.frozen HX.out
          go_wp2_with fail
          clear x0 x1 x2 x3 x4 x5 xl xf
          refine (f48 _ _).mono ?_
          rintro e w' ⟨rfl, hw⟩
          rw [hw]; clear hw w'
          rw [hJ]
          have B5' := hid (st6b_below (B := w.heap.size) HZ.out (Nat.le_refl _) 18 0 (-1) 0 0 z)
          have P5 := hid (Box6.cells (Box6.st HQ.out 18 0 (-1) 0 0 z))
          obtain ⟨x0, x1, x2, x3, x4, x5⟩ := Box6.cells HX.out
          have xl := Box6.lt HX.out
          have xf := Box6.frozen HX.out
          obtain ⟨q0, q1, q2, q3, q4, q5⟩ := Box6.cells HQ.out
          have ql := Box6.lt HQ.out
          have qf := Box6.frozen HQ.out
          go_wp2_with fail
          obtain ⟨rr0, rr1, rr2, rr3, rr4, rr5⟩ := P5.out
          unfold st6b at rr0 rr1 rr2 rr3 rr4 rr5
          refine bodyPost_ret (v := .agg #[.int .i64 18, .int .i64 0, .int .i64 (-1), .int .i64 0, .int .i64 0, .int .i64 z]) (by simp [results, Try.results80, go_sem, rr0, rr1, rr2, rr3, rr4, rr5]) rfl ?_
          exact ⟨⟨_, _, _, _, _, _, rfl⟩, B5'.out⟩
        · have HLN := hid hln
          have e2 : ((ws.length : Int) == 2) = false := by simp; omega
          have e3 : ((ws.length : Int) == 3) = false := by simp; omega
          have e4 : ((ws.length : Int) == 4) = true := by simp; omega
          obtain ⟨x0, x1, x2, x3, x4, x5⟩ := Box6.cells HX.out
          have xl := Box6.lt HX.out
          have xf := Box6.frozen HX.out
          go_wp2_with fail
          clear x0 x1 x2 x3 x4 x5 xl xf
          refine (f49 _ _).mono ?_
          rintro e w' ⟨rfl, hw⟩
          rw [hw]; clear hw w'
          rw [hA]
          obtain ⟨x0, x1, x2, x3, x4, x5⟩ := Box6.cells HX.out
          have xl := Box6.lt HX.out
          have xf := Box6.frozen HX.out
          go_wp2_with fail
          clear x0 x1 x2 x3 x4 x5 xl xf
          refine (f48 _ _).mono ?_
          rintro e w' ⟨rfl, hw⟩
          rw [hw]; clear hw w'
          rw [hJ]
          obtain ⟨x0, x1, x2, x3, x4, x5⟩ := Box6.cells HX.out
          have xl := Box6.lt HX.out
          have xf := Box6.frozen HX.out
          have cg1 := SL.at' HW.out (show 1 < ws.length by omega) HY1.out
          go_wp2_with fail
          clear x0 x1 x2 x3 x4 x5 xl xf
          clear cg1
          refine (readReg_w y1 _ hy1s).mono ?_
          rintro e wn1 ⟨⟨p1, p2, rfl⟩, bb⟩
          replace HQ := hid (HQ.out.bel bb)
          replace HX := hid (HX.out.bel bb)
          replace HW := hid (HW.out.below bb)
          replace HZ := hid (HZ.out.to bb)
          clear bb
          obtain ⟨x0, x1, x2, x3, x4, x5⟩ := Box6.cells HX.out
          have xl := Box6.lt HX.out
          have xf := Box6.frozen HX.out
          have cg3 := SL.at' HW.out (show 3 < ws.length by omega) HY3.out
          go_wp2_with fail
          clear x0 x1 x2 x3 x4 x5 xl xf
          clear cg3
          refine (readReg_w y3 _ hy3s).mono ?_
          rintro e wn2 ⟨⟨p3, p4, rfl⟩, bb⟩
          replace HQ := hid (HQ.out.bel bb)
          replace HX := hid (HX.out.bel bb)
          replace HW := hid (HW.out.below bb)
          replace HZ := hid (HZ.out.to bb)
          clear bb
          obtain ⟨x0, x1, x2, x3, x4, x5⟩ := Box6.cells HX.out
          have xl := Box6.lt HX.out
          have xf := Box6.frozen HX.out
          have cg2 := SL.at' HW.out (show 2 < ws.length by omega) HY2.out
          go_wp2_with fail
          clear x0 x1 x2 x3 x4 x5 xl xf
          clear cg2
          have h1 := (Box6.set1 p1 HX.out)
          have h2 := (Box6.setO HQ.out X 1 (.int .i64 p1) (by omega))
          have h3 := (SL.set (C := X) (j := 1) HW.out (.int .i64 p1) (by omega))
          have h4 := (Below.setCell (p := ⟨X, 1, none⟩) HZ.out (by show w.heap.size ≤ X; omega) (.int .i64 p1))
          generalize (wn2.setCell ⟨X, 1, none⟩ (.int .i64 p1)) = wn3 at *
          replace HX := hid h1
          replace HQ := hid h2
          replace HW := hid h3
          replace HZ := hid h4
          clear h1 h2 h3 h4
          refine (signed_w y2 _ hy2s).mono ?_
          rintro e wn4 ⟨⟨p5, rfl⟩, bb⟩
          replace HQ := hid (HQ.out.bel bb)
          replace HX := hid (HX.out.bel bb)
          replace HW := hid (HW.out.below bb)
          replace HZ := hid (HZ.out.to bb)
          clear bb
          have B5' := hid (st6b_below (B := w.heap.size) (Below.setCell (p := ⟨X, 4, none⟩) (Below.setCell (p := ⟨X, 2, none⟩) (Below.setCell (p := ⟨X, 3, none⟩) HZ.out (by show w.heap.size ≤ X; omega) (.int .i64 p5)) (by show w.heap.size ≤ X; omega) (.int .i64 p3)) (by show w.heap.size ≤ X; omega) (.int .i64 p4)) (Nat.le_refl _) 18 p1 p3 p5 p4 z)
          have P5 := hid (Box6.cells (Box6.st (Box6.setO (Box6.setO (Box6.setO HQ.out X 3 (.int .i64 p5) (by omega)) X 2 (.int .i64 p3) (by omega)) X 4 (.int .i64 p4) (by omega)) 18 p1 p3 p5 p4 z))
          obtain ⟨x0, x1, x2, x3, x4, x5⟩ := Box6.cells HX.out
          have xl := Box6.lt HX.out
          have xf := Box6.frozen HX.out
          obtain ⟨q0, q1, q2, q3, q4, q5⟩ := Box6.cells HQ.out
          have ql := Box6.lt HQ.out
          have qf := Box6.frozen HQ.out
          go_wp2_with fail
          obtain ⟨rr0, rr1, rr2, rr3, rr4, rr5⟩ := P5.out
          unfold st6b at rr0 rr1 rr2 rr3 rr4 rr5
          refine bodyPost_ret (v := .agg #[.int .i64 18, .int .i64 p1, .int .i64 p3, .int .i64 p5, .int .i64 p4, .int .i64 z]) (by simp [results, Try.results80, go_sem, rr0, rr1, rr2, rr3, rr4, rr5]) rfl ?_
          exact ⟨⟨_, _, _, _, _, _, rfl⟩, B5'.out⟩
        · have HLN := hid hln
          have e2 : ((ws.length : Int) == 2) = false := by simp; omega
          have e3 : ((ws.length : Int) == 3) = false := by simp; omega
          have e4 : ((ws.length : Int) == 4) = false := by simp; omega
          obtain ⟨x0, x1, x2, x3, x4, x5⟩ := Box6.cells HX.out
          have xl := Box6.lt HX.out
          have xf := Box6.frozen HX.out
          go_wp2_with fail
          clear x0 x1 x2 x3 x4 x5 xl xf
          refine (f49 _ _).mono ?_
          rintro e w' ⟨rfl, hw⟩
          rw [hw]; clear hw w'
          rw [hA]
          obtain ⟨x0, x1, x2, x3, x4, x5⟩ := Box6.cells HX.out
          have xl := Box6.lt HX.out
          have xf := Box6.frozen HX.out
          go_wp2_with fail
          clear x0 x1 x2 x3 x4 x5 xl xf
          refine (f48 _ _).mono ?_
          rintro e w' ⟨rfl, hw⟩
          rw [hw]; clear hw w'
          rw [hJ]
          have B5' := hid (st6b_below (B := w.heap.size) HZ.out (Nat.le_refl _) 18 0 (-1) 0 0 z)
          have P5 := hid (Box6.cells (Box6.st HQ.out 18 0 (-1) 0 0 z))
          obtain ⟨x0, x1, x2, x3, x4, x5⟩ := Box6.cells HX.out
          have xl := Box6.lt HX.out
          have xf := Box6.frozen HX.out
          obtain ⟨q0, q1, q2, q3, q4, q5⟩ := Box6.cells HQ.out
          have ql := Box6.lt HQ.out
          have qf := Box6.frozen HQ.out
          go_wp2_with fail
          obtain ⟨rr0, rr1, rr2, rr3, rr4, rr5⟩ := P5.out
          unfold st6b at rr0 rr1 rr2 rr3 rr4 rr5
          refine bodyPost_ret (v := .agg #[.int .i64 18, .int .i64 0, .int .i64 (-1), .int .i64 0, .int .i64 0, .int .i64 z]) (by simp [results, Try.results80, go_sem, rr0, rr1, rr2, rr3, rr4, rr5]) rfl ?_
          exact ⟨⟨_, _, _, _, _, _, rfl⟩, B5'.out⟩
      · skip
        have hA : inB 19 1 11 = false := by decide
        have hJ : inB 19 12 15 = false := by decide
        rcases hlc with hln | hln | hln | hln
        · have HLN := hid hln
          have e2 : ((ws.length : Int) == 2) = true := by simp; omega
          have e3 : ((ws.length : Int) == 3) = false := by simp; omega
          have e4 : ((ws.length : Int) == 4) = false := by simp; omega
          obtain ⟨x0, x1, x2, x3, x4, x5⟩ := Box6.cells HX.out
          have xl := Box6.lt HX.out
          have xf := Box6.frozen HX.out
          go_wp2_with fail
          clear x0 x1 x2 x3 x4 x5 xl xf
          refine (f49 _ _).mono ?_
          rintro e w' ⟨rfl, hw⟩
          rw [hw]; clear hw w'
          rw [hA]
          obtain ⟨x0, x1, x2, x3, x4, x5⟩ := Box6.cells HX.out
          have xl := Box6.lt HX.out
          have xf := Box6.frozen HX.out
          go_wp2_with fail
          clear x0 x1 x2 x3 x4 x5 xl xf
          refine (f48 _ _).mono ?_
          rintro e w' ⟨rfl, hw⟩
          rw [hw]; clear hw w'
          rw [hJ]
          obtain ⟨x0, x1, x2, x3, x4, x5⟩ := Box6.cells HX.out
          have xl := Box6.lt HX.out
          have xf := Box6.frozen HX.out
          go_wp2_with fail
          clear x0 x1 x2 x3 x4 x5 xl xf
          refine wp_region_held_drew (S := (fun w' => w'.cell? ⟨g, 1, none⟩ = some (.string y1))) (by kernel_rfl) (by exact SL.at' HW.out (show 1 < ws.length by omega) HY1.out) (fun hHeld => ?_)
          have hbd : Below wr.heap.size wr wr.drew := (Below.refl _ _).drew
          replace HQ := hid (HQ.out.bel hbd)
          replace HX := hid (HX.out.bel hbd)
          replace HW := hid (HW.out.below hbd)
          replace HZ := hid (HZ.out.to hbd)
          clear hbd
          generalize wr.drew = W1 at *
          refine wpAnyH_take (i := 1) (oi := ?oi5001) (v := ?v5001) (fuel := 6) ?hi5001 ?hs5001 ?hf5001 ?hr5001 ?hq5001 (Or.inl ⟨?hw5001, ?hy5001⟩) hHeld ?rest5001
          case hi5001 => rw [List.getElem?_toArray]; rfl
          case hq5001 => exact fun _ _ _ h => h
          case hs5001 | hf5001 | hr5001 => kernel_rfl
          case hw5001 => rfl
          case hy5001 => (intro w1 hSw; (try dsimp only at hSw); go_simp; try with_reducible rfl)
          (try simp only [Act.put, List.setIfInBounds_toArray, List.set_cons_zero, List.set_cons_succ])
          refine wpAnyH_take (i := 2) (oi := ?oi5002) (v := ?v5002) (fuel := 5) ?hi5002 ?hs5002 ?hf5002 ?hr5002 ?hq5002 (Or.inl ⟨?hw5002, ?hy5002⟩) hHeld ?rest5002
          case hi5002 => rw [List.getElem?_toArray]; rfl
          case hq5002 => exact fun _ _ _ h => h
          case hs5002 | hf5002 | hr5002 => kernel_rfl
          case hw5002 => rfl
          case hy5002 => (intro w1 hSw; (try dsimp only at hSw); go_simp; try with_reducible rfl)
          (try simp only [Act.put, List.setIfInBounds_toArray, List.set_cons_zero, List.set_cons_succ])
          refine wpAnyH_take (i := 3) (oi := ?oi5003) (v := ?v5003) (fuel := 4) ?hi5003 ?hs5003 ?hf5003 ?hr5003 ?hq5003 (Or.inl ⟨?hw5003, ?hy5003⟩) hHeld ?rest5003
          case hi5003 => rw [List.getElem?_toArray]; rfl
          case hq5003 => exact fun _ _ _ h => h
          case hs5003 | hf5003 | hr5003 => kernel_rfl
          case hw5003 => rfl
          case hy5003 => (intro w1 hSw; (try dsimp only at hSw); go_simp; try with_reducible rfl)
          (try simp only [Act.put, List.setIfInBounds_toArray, List.set_cons_zero, List.set_cons_succ])
          refine wpAnyH_ready (fuel := 3) (rs := [0]) (by kernel_rfl) (by simp) ?_
          refine AllReadyH.cons (o := ?oi5004) ?hi5004 (fun K hK => ?st5004) AllReadyH.nil
          case hi5004 => rw [List.getElem?_toArray]; rfl
          go_simp
          refine (calls_w _).mono ?_
          rintro ee wr0 ⟨rfl, hsl, b0⟩
          have HSL := hid hsl
          clear hsl
          replace HQ := hid (HQ.out.bel b0)
          replace HX := hid (HX.out.bel b0)
          replace HW := hid (HW.out.below b0)
          replace HZ := hid (HZ.out.to b0)
          clear b0
          go_wp2_with fail
          generalize W1.heap.size = G at *
          refine hK.out _ _ ?hS5004 (fun hHeld => ?re5004)
          case hS5004 => exact SL.at' HW.out (show 1 < ws.length by omega) HY1.out
          clear hK K
          (try simp only [Act.put, List.setIfInBounds_toArray, List.set_cons_zero, List.set_cons_succ])
          refine wpAnyH_ready (fuel := 2) (rs := [4]) (by kernel_rfl) (by simp) ?_
          refine AllReadyH.cons (o := ?oi5005) ?hi5005 (fun K hK => ?st5005) AllReadyH.nil
          case hi5005 => rw [List.getElem?_toArray]; rfl
          go_simp
          refine (find_w callsL G 7 rfl (by omega) y1 _ HSL.out).mono ?_
          rintro ee wr4 ⟨⟨v, v0, v1, rfl⟩, b4⟩
          clear HSL
          replace HQ := hid (HQ.out.bel b4)
          replace HX := hid (HX.out.bel b4)
          replace HW := hid (HW.out.below b4)
          replace HZ := hid (HZ.out.to b4)
          clear b4
          go_wp2_with fail
          refine hK.out _ _ ?hS5005 (fun hHeld => ?re5005)
          case hS5005 => exact SL.at' HW.out (show 1 < ws.length by omega) HY1.out
          clear hK K
          (try simp only [Act.put, List.setIfInBounds_toArray, List.set_cons_zero, List.set_cons_succ])
          refine wpAnyH_take (i := 5) (oi := ?oi5006) (v := ?v5006) (fuel := 1) ?hi5006 ?hs5006 ?hf5006 ?hr5006 ?hq5006 (Or.inl ⟨?hw5006, ?hy5006⟩) hHeld ?rest5006
          case hi5006 => rw [List.getElem?_toArray]; rfl
          case hq5006 => exact fun _ _ _ h => h
          case hs5006 | hf5006 | hr5006 => kernel_rfl
          case hw5006 => rfl
          case hy5006 => (intro w1 hSw; (try dsimp only at hSw); go_simp; try with_reducible rfl)
          (try simp only [Act.put, List.setIfInBounds_toArray, List.set_cons_zero, List.set_cons_succ])
          refine wpAnyH_ready (fuel := 0) (rs := [6]) (by kernel_rfl) (by simp) ?_
          refine AllReadyH.cons (o := ?oi5007) ?hi5007 (fun K hK => ?st5007) AllReadyH.nil
          case hi5007 => rw [List.getElem?_toArray]; rfl
          obtain ⟨x0, x1, x2, x3, x4, x5⟩ := Box6.cells HX.out
          have xl := Box6.lt HX.out
          have xf := Box6.frozen HX.out
          go_simp
          clear x0 x1 x2 x3 x4 x5 xl xf
          refine hK.out _ _ ?hS5007 (fun hHeld => ?re5007)
          case hS5007 => exact SL.at' (SL.set (C := X) (j := 4) HW.out (.int .i64 v) (by omega)) (show 1 < ws.length by omega) HY1.out
          clear hK K
          (try simp only [Act.put, List.setIfInBounds_toArray, List.set_cons_zero, List.set_cons_succ])
          refine wpAnyH_done (by kernel_rfl) ?_ _
          clear hHeld
          have h1 := (Box6.set4 v HX.out)
          have h2 := (Box6.setO HQ.out X 4 (.int .i64 v) (by omega))
          have h3 := (SL.set (C := X) (j := 4) HW.out (.int .i64 v) (by omega))
          have h4 := (Below.setCell (p := ⟨X, 4, none⟩) HZ.out (by show w.heap.size ≤ X; omega) (.int .i64 v))
          generalize (wr4.setCell ⟨X, 4, none⟩ (.int .i64 v)) = wn51 at *
          replace HX := hid h1
          replace HQ := hid h2
          replace HW := hid h3
          replace HZ := hid h4
          clear h1 h2 h3 h4
          have B5' := hid (st6b_below (B := w.heap.size) HZ.out (Nat.le_refl _) 19 0 (-1) 0 v z)
          have P5 := hid (Box6.cells (Box6.st HQ.out 19 0 (-1) 0 v z))
          obtain ⟨x0, x1, x2, x3, x4, x5⟩ := Box6.cells HX.out
          have xl := Box6.lt HX.out
          have xf := Box6.frozen HX.out
          obtain ⟨q0, q1, q2, q3, q4, q5⟩ := Box6.cells HQ.out
          have ql := Box6.lt HQ.out
          have qf := Box6.frozen HQ.out
          go_wp2_with fail
          obtain ⟨rr0, rr1, rr2, rr3, rr4, rr5⟩ := P5.out
          unfold st6b at rr0 rr1 rr2 rr3 rr4 rr5
          refine bodyPost_ret (v := .agg #[.int .i64 19, .int .i64 0, .int .i64 (-1), .int .i64 0, .int .i64 v, .int .i64 z]) (by simp [results, Try.results80, go_sem, rr0, rr1, rr2, rr3, rr4, rr5]) rfl ?_
          exact ⟨⟨_, _, _, _, _, _, rfl⟩, B5'.out⟩
        · have HLN := hid hln
          have e2 : ((ws.length : Int) == 2) = false := by simp; omega
          have e3 : ((ws.length : Int) == 3) = true := by simp; omega
          have e4 : ((ws.length : Int) == 4) = false := by simp; omega
          obtain ⟨x0, x1, x2, x3, x4, x5⟩ := Box6.cells HX.out
          have xl := Box6.lt HX.out
          have xf := Box6.frozen HX.out
          go_wp2_with fail
          clear x0 x1 x2 x3 x4 x5 xl xf
          refine (f49 _ _).mono ?_
          rintro e w' ⟨rfl, hw⟩
          rw [hw]; clear hw w'
          rw [hA]
          obtain ⟨x0, x1, x2, x3, x4, x5⟩ := Box6.cells HX.out
          have xl := Box6.lt HX.out
          have xf := Box6.frozen HX.out
          go_wp2_with fail
          clear x0 x1 x2 x3 x4 x5 xl xf
          refine (f48 _ _).mono ?_
          rintro e w' ⟨rfl, hw⟩
          rw [hw]; clear hw w'
          rw [hJ]
          have B5' := hid (st6b_below (B := w.heap.size) HZ.out (Nat.le_refl _) 19 0 (-1) 0 0 z)
          have P5 := hid (Box6.cells (Box6.st HQ.out 19 0 (-1) 0 0 z))
          obtain ⟨x0, x1, x2, x3, x4, x5⟩ := Box6.cells HX.out
          have xl := Box6.lt HX.out
          have xf := Box6.frozen HX.out
          obtain ⟨q0, q1, q2, q3, q4, q5⟩ := Box6.cells HQ.out
          have ql := Box6.lt HQ.out
          have qf := Box6.frozen HQ.out
          go_wp2_with fail
          obtain ⟨rr0, rr1, rr2, rr3, rr4, rr5⟩ := P5.out
          unfold st6b at rr0 rr1 rr2 rr3 rr4 rr5
          refine bodyPost_ret (v := .agg #[.int .i64 19, .int .i64 0, .int .i64 (-1), .int .i64 0, .int .i64 0, .int .i64 z]) (by simp [results, Try.results80, go_sem, rr0, rr1, rr2, rr3, rr4, rr5]) rfl ?_
          exact ⟨⟨_, _, _, _, _, _, rfl⟩, B5'.out⟩
        · have HLN := hid hln
          have e2 : ((ws.length : Int) == 2) = false := by simp; omega
          have e3 : ((ws.length : Int) == 3) = false := by simp; omega
          have e4 : ((ws.length : Int) == 4) = true := by simp; omega
          obtain ⟨x0, x1, x2, x3, x4, x5⟩ := Box6.cells HX.out
          have xl := Box6.lt HX.out
          have xf := Box6.frozen HX.out
          go_wp2_with fail
          clear x0 x1 x2 x3 x4 x5 xl xf
          refine (f49 _ _).mono ?_
          rintro e w' ⟨rfl, hw⟩
          rw [hw]; clear hw w'
          rw [hA]
          obtain ⟨x0, x1, x2, x3, x4, x5⟩ := Box6.cells HX.out
          have xl := Box6.lt HX.out
          have xf := Box6.frozen HX.out
          go_wp2_with fail
          clear x0 x1 x2 x3 x4 x5 xl xf
          refine (f48 _ _).mono ?_
          rintro e w' ⟨rfl, hw⟩
          rw [hw]; clear hw w'
          rw [hJ]
          have B5' := hid (st6b_below (B := w.heap.size) HZ.out (Nat.le_refl _) 19 0 (-1) 0 0 z)
          have P5 := hid (Box6.cells (Box6.st HQ.out 19 0 (-1) 0 0 z))
          obtain ⟨x0, x1, x2, x3, x4, x5⟩ := Box6.cells HX.out
          have xl := Box6.lt HX.out
          have xf := Box6.frozen HX.out
          obtain ⟨q0, q1, q2, q3, q4, q5⟩ := Box6.cells HQ.out
          have ql := Box6.lt HQ.out
          have qf := Box6.frozen HQ.out
          go_wp2_with fail
          obtain ⟨rr0, rr1, rr2, rr3, rr4, rr5⟩ := P5.out
          unfold st6b at rr0 rr1 rr2 rr3 rr4 rr5
          refine bodyPost_ret (v := .agg #[.int .i64 19, .int .i64 0, .int .i64 (-1), .int .i64 0, .int .i64 0, .int .i64 z]) (by simp [results, Try.results80, go_sem, rr0, rr1, rr2, rr3, rr4, rr5]) rfl ?_
          exact ⟨⟨_, _, _, _, _, _, rfl⟩, B5'.out⟩
        · have HLN := hid hln
          have e2 : ((ws.length : Int) == 2) = false := by simp; omega
          have e3 : ((ws.length : Int) == 3) = false := by simp; omega
          have e4 : ((ws.length : Int) == 4) = false := by simp; omega
          obtain ⟨x0, x1, x2, x3, x4, x5⟩ := Box6.cells HX.out
          have xl := Box6.lt HX.out
          have xf := Box6.frozen HX.out
          go_wp2_with fail
          clear x0 x1 x2 x3 x4 x5 xl xf
          refine (f49 _ _).mono ?_
          rintro e w' ⟨rfl, hw⟩
          rw [hw]; clear hw w'
          rw [hA]
          obtain ⟨x0, x1, x2, x3, x4, x5⟩ := Box6.cells HX.out
          have xl := Box6.lt HX.out
          have xf := Box6.frozen HX.out
          go_wp2_with fail
          clear x0 x1 x2 x3 x4 x5 xl xf
          refine (f48 _ _).mono ?_
          rintro e w' ⟨rfl, hw⟩
          rw [hw]; clear hw w'
          rw [hJ]
          have B5' := hid (st6b_below (B := w.heap.size) HZ.out (Nat.le_refl _) 19 0 (-1) 0 0 z)
          have P5 := hid (Box6.cells (Box6.st HQ.out 19 0 (-1) 0 0 z))
          obtain ⟨x0, x1, x2, x3, x4, x5⟩ := Box6.cells HX.out
          have xl := Box6.lt HX.out
          have xf := Box6.frozen HX.out
          obtain ⟨q0, q1, q2, q3, q4, q5⟩ := Box6.cells HQ.out
          have ql := Box6.lt HQ.out
          have qf := Box6.frozen HQ.out
          go_wp2_with fail
          obtain ⟨rr0, rr1, rr2, rr3, rr4, rr5⟩ := P5.out
          unfold st6b at rr0 rr1 rr2 rr3 rr4 rr5
          refine bodyPost_ret (v := .agg #[.int .i64 19, .int .i64 0, .int .i64 (-1), .int .i64 0, .int .i64 0, .int .i64 z]) (by simp [results, Try.results80, go_sem, rr0, rr1, rr2, rr3, rr4, rr5]) rfl ?_
          exact ⟨⟨_, _, _, _, _, _, rfl⟩, B5'.out⟩
      · skip
        have hA : inB o 1 11 = false := by simp [inB]; omega
        have hJ : inB o 12 15 = false := by simp [inB]; omega
        have o16 : (o == 16) = false := by simp; omega
        have o17 : (o == 17) = false := by simp; omega
        have o18 : (o == 18) = false := by simp; omega
        have o19 : (o == 19) = false := by simp; omega
        rcases hlc with hln | hln | hln | hln
        · have HLN := hid hln
          have e2 : ((ws.length : Int) == 2) = true := by simp; omega
          have e3 : ((ws.length : Int) == 3) = false := by simp; omega
          have e4 : ((ws.length : Int) == 4) = false := by simp; omega
          obtain ⟨x0, x1, x2, x3, x4, x5⟩ := Box6.cells HX.out
          have xl := Box6.lt HX.out
          have xf := Box6.frozen HX.out
          go_wp2_with fail
          clear x0 x1 x2 x3 x4 x5 xl xf
          refine (f49 _ _).mono ?_
          rintro e w' ⟨rfl, hw⟩
          rw [hw]; clear hw w'
          rw [hA]
          obtain ⟨x0, x1, x2, x3, x4, x5⟩ := Box6.cells HX.out
          have xl := Box6.lt HX.out
          have xf := Box6.frozen HX.out
          go_wp2_with fail
          clear x0 x1 x2 x3 x4 x5 xl xf
          refine (f48 _ _).mono ?_
          rintro e w' ⟨rfl, hw⟩
          rw [hw]; clear hw w'
          rw [hJ]
          have B5' := hid (st6b_below (B := w.heap.size) HZ.out (Nat.le_refl _) o 0 (-1) 0 0 z)
          have P5 := hid (Box6.cells (Box6.st HQ.out o 0 (-1) 0 0 z))
          obtain ⟨x0, x1, x2, x3, x4, x5⟩ := Box6.cells HX.out
          have xl := Box6.lt HX.out
          have xf := Box6.frozen HX.out
          obtain ⟨q0, q1, q2, q3, q4, q5⟩ := Box6.cells HQ.out
          have ql := Box6.lt HQ.out
          have qf := Box6.frozen HQ.out
          go_wp2_with fail
          obtain ⟨rr0, rr1, rr2, rr3, rr4, rr5⟩ := P5.out
          unfold st6b at rr0 rr1 rr2 rr3 rr4 rr5
          refine bodyPost_ret (v := .agg #[.int .i64 o, .int .i64 0, .int .i64 (-1), .int .i64 0, .int .i64 0, .int .i64 z]) (by simp [results, Try.results80, go_sem, rr0, rr1, rr2, rr3, rr4, rr5]) rfl ?_
          exact ⟨⟨_, _, _, _, _, _, rfl⟩, B5'.out⟩
        · have HLN := hid hln
          have e2 : ((ws.length : Int) == 2) = false := by simp; omega
          have e3 : ((ws.length : Int) == 3) = true := by simp; omega
          have e4 : ((ws.length : Int) == 4) = false := by simp; omega
          obtain ⟨x0, x1, x2, x3, x4, x5⟩ := Box6.cells HX.out
          have xl := Box6.lt HX.out
          have xf := Box6.frozen HX.out
          go_wp2_with fail
          clear x0 x1 x2 x3 x4 x5 xl xf
          refine (f49 _ _).mono ?_
          rintro e w' ⟨rfl, hw⟩
          rw [hw]; clear hw w'
          rw [hA]
          obtain ⟨x0, x1, x2, x3, x4, x5⟩ := Box6.cells HX.out
          have xl := Box6.lt HX.out
          have xf := Box6.frozen HX.out
          go_wp2_with fail
          clear x0 x1 x2 x3 x4 x5 xl xf
          refine (f48 _ _).mono ?_
          rintro e w' ⟨rfl, hw⟩
          rw [hw]; clear hw w'
          rw [hJ]
          have B5' := hid (st6b_below (B := w.heap.size) HZ.out (Nat.le_refl _) o 0 (-1) 0 0 z)
          have P5 := hid (Box6.cells (Box6.st HQ.out o 0 (-1) 0 0 z))
          obtain ⟨x0, x1, x2, x3, x4, x5⟩ := Box6.cells HX.out
          have xl := Box6.lt HX.out
          have xf := Box6.frozen HX.out
          obtain ⟨q0, q1, q2, q3, q4, q5⟩ := Box6.cells HQ.out
          have ql := Box6.lt HQ.out
          have qf := Box6.frozen HQ.out
          go_wp2_with fail
          obtain ⟨rr0, rr1, rr2, rr3, rr4, rr5⟩ := P5.out
          unfold st6b at rr0 rr1 rr2 rr3 rr4 rr5
          refine bodyPost_ret (v := .agg #[.int .i64 o, .int .i64 0, .int .i64 (-1), .int .i64 0, .int .i64 0, .int .i64 z]) (by simp [results, Try.results80, go_sem, rr0, rr1, rr2, rr3, rr4, rr5]) rfl ?_
          exact ⟨⟨_, _, _, _, _, _, rfl⟩, B5'.out⟩
        · have HLN := hid hln
          have e2 : ((ws.length : Int) == 2) = false := by simp; omega
          have e3 : ((ws.length : Int) == 3) = false := by simp; omega
          have e4 : ((ws.length : Int) == 4) = true := by simp; omega
          obtain ⟨x0, x1, x2, x3, x4, x5⟩ := Box6.cells HX.out
          have xl := Box6.lt HX.out
          have xf := Box6.frozen HX.out
          go_wp2_with fail
          clear x0 x1 x2 x3 x4 x5 xl xf
          refine (f49 _ _).mono ?_
          rintro e w' ⟨rfl, hw⟩
          rw [hw]; clear hw w'
          rw [hA]
          obtain ⟨x0, x1, x2, x3, x4, x5⟩ := Box6.cells HX.out
          have xl := Box6.lt HX.out
          have xf := Box6.frozen HX.out
          go_wp2_with fail
          clear x0 x1 x2 x3 x4 x5 xl xf
          refine (f48 _ _).mono ?_
          rintro e w' ⟨rfl, hw⟩
          rw [hw]; clear hw w'
          rw [hJ]
          have B5' := hid (st6b_below (B := w.heap.size) HZ.out (Nat.le_refl _) o 0 (-1) 0 0 z)
          have P5 := hid (Box6.cells (Box6.st HQ.out o 0 (-1) 0 0 z))
          obtain ⟨x0, x1, x2, x3, x4, x5⟩ := Box6.cells HX.out
          have xl := Box6.lt HX.out
          have xf := Box6.frozen HX.out
          obtain ⟨q0, q1, q2, q3, q4, q5⟩ := Box6.cells HQ.out
          have ql := Box6.lt HQ.out
          have qf := Box6.frozen HQ.out
          go_wp2_with fail
          obtain ⟨rr0, rr1, rr2, rr3, rr4, rr5⟩ := P5.out
          unfold st6b at rr0 rr1 rr2 rr3 rr4 rr5
          refine bodyPost_ret (v := .agg #[.int .i64 o, .int .i64 0, .int .i64 (-1), .int .i64 0, .int .i64 0, .int .i64 z]) (by simp [results, Try.results80, go_sem, rr0, rr1, rr2, rr3, rr4, rr5]) rfl ?_
          exact ⟨⟨_, _, _, _, _, _, rfl⟩, B5'.out⟩
        · have HLN := hid hln
          have e2 : ((ws.length : Int) == 2) = false := by simp; omega
          have e3 : ((ws.length : Int) == 3) = false := by simp; omega
          have e4 : ((ws.length : Int) == 4) = false := by simp; omega
          obtain ⟨x0, x1, x2, x3, x4, x5⟩ := Box6.cells HX.out
          have xl := Box6.lt HX.out
          have xf := Box6.frozen HX.out
          go_wp2_with fail
          clear x0 x1 x2 x3 x4 x5 xl xf
          refine (f49 _ _).mono ?_
          rintro e w' ⟨rfl, hw⟩
          rw [hw]; clear hw w'
          rw [hA]
          obtain ⟨x0, x1, x2, x3, x4, x5⟩ := Box6.cells HX.out
          have xl := Box6.lt HX.out
          have xf := Box6.frozen HX.out
          go_wp2_with fail
          clear x0 x1 x2 x3 x4 x5 xl xf
          refine (f48 _ _).mono ?_
          rintro e w' ⟨rfl, hw⟩
          rw [hw]; clear hw w'
          rw [hJ]
          have B5' := hid (st6b_below (B := w.heap.size) HZ.out (Nat.le_refl _) o 0 (-1) 0 0 z)
          have P5 := hid (Box6.cells (Box6.st HQ.out o 0 (-1) 0 0 z))
          obtain ⟨x0, x1, x2, x3, x4, x5⟩ := Box6.cells HX.out
          have xl := Box6.lt HX.out
          have xf := Box6.frozen HX.out
          obtain ⟨q0, q1, q2, q3, q4, q5⟩ := Box6.cells HQ.out
          have ql := Box6.lt HQ.out
          have qf := Box6.frozen HQ.out
          go_wp2_with fail
          obtain ⟨rr0, rr1, rr2, rr3, rr4, rr5⟩ := P5.out
          unfold st6b at rr0 rr1 rr2 rr3 rr4 rr5
          refine bodyPost_ret (v := .agg #[.int .i64 o, .int .i64 0, .int .i64 (-1), .int .i64 0, .int .i64 0, .int .i64 z]) (by simp [results, Try.results80, go_sem, rr0, rr1, rr2, rr3, rr4, rr5]) rfl ?_
          exact ⟨⟨_, _, _, _, _, _, rfl⟩, B5'.out⟩
    · have hn4 : n ≤ 4 := by omega
      have hn4' : (n : Int) ≤ 4 := by omega
      have hn0 : (0 : Int) ≤ (n : Int) := by omega
      have hds := decS_size 18 n (by omega)
      cases hq1 : (y0.toList == ((⟨#[108, 111, 97, 100]⟩ : ByteArray) ++ decS n).toList)
      · cases hq2 : (y0.toList == ((⟨#[115, 116, 111, 114, 101]⟩ : ByteArray) ++ decS n).toList)
        · go_wp2_with fail
          refine wp_region_held_drew (S := (fun w' => w'.cell? ⟨g, 0, none⟩ = some (.string y0))) (by kernel_rfl) (by exact SL.at' HW.out (by omega) HY0.out) (fun hHeld => ?_)
          have hbd : Below wr.heap.size wr wr.drew := (Below.refl _ _).drew
          replace HQ := hid (HQ.out.bel hbd)
          replace HX := hid (HX.out.bel hbd)
          replace HW := hid (HW.out.below hbd)
          replace HZ := hid (HZ.out.to hbd)
          clear hbd
          generalize wr.drew = W1 at *
          refine wpAnyH_take (i := 0) (oi := ?oi18) (v := ?v18) (fuel := 15) ?hi18 ?hs18 ?hf18 ?hr18 ?hq18 (Or.inl ⟨?hw18, ?hy18⟩) hHeld ?rest18
          case hi18 => rw [List.getElem?_toArray]; rfl
          case hq18 => exact fun _ _ _ h => h
          case hs18 | hf18 | hr18 => kernel_rfl
          case hw18 => rfl
          case hy18 => (intro w1 hSw; (try dsimp only at hSw); go_simp; try with_reducible rfl)
          (try simp only [Act.put, List.setIfInBounds_toArray, List.set_cons_zero, List.set_cons_succ])
          refine wpAnyH_take (i := 1) (oi := ?oi19) (v := ?v19) (fuel := 14) ?hi19 ?hs19 ?hf19 ?hr19 ?hq19 (Or.inl ⟨?hw19, ?hy19⟩) hHeld ?rest19
          case hi19 => rw [List.getElem?_toArray]; rfl
          case hq19 => exact fun _ _ _ h => h
          case hs19 | hf19 | hr19 => kernel_rfl
          case hw19 => rfl
          case hy19 => (intro w1 hSw; (try dsimp only at hSw); go_simp; try with_reducible rfl)
          (try simp only [Act.put, List.setIfInBounds_toArray, List.set_cons_zero, List.set_cons_succ])
          refine wpAnyH_take (i := 2) (oi := ?oi20) (v := ?v20) (fuel := 13) ?hi20 ?hs20 ?hf20 ?hr20 ?hq20 (Or.inl ⟨?hw20, ?hy20⟩) hHeld ?rest20
          case hi20 => rw [List.getElem?_toArray]; rfl
          case hq20 => exact fun _ _ _ h => h
          case hs20 | hf20 | hr20 => kernel_rfl
          case hw20 => rfl
          case hy20 => (intro w1 hSw; (try dsimp only at hSw); go_simp; try with_reducible rfl)
          (try simp only [Act.put, List.setIfInBounds_toArray, List.set_cons_zero, List.set_cons_succ])
          refine wpAnyH_take (i := 3) (oi := ?oi21) (v := ?v21) (fuel := 12) ?hi21 ?hs21 ?hf21 ?hr21 ?hq21 (Or.inl ⟨?hw21, ?hy21⟩) hHeld ?rest21
          case hi21 => rw [List.getElem?_toArray]; rfl
          case hq21 => exact fun _ _ _ h => h
          case hs21 | hf21 | hr21 => kernel_rfl
          case hw21 => rfl
          case hy21 => (intro w1 hSw; (try dsimp only at hSw); go_simp; try with_reducible rfl)
          (try simp only [Act.put, List.setIfInBounds_toArray, List.set_cons_zero, List.set_cons_succ])
          refine wpAnyH_ready (fuel := 11) (rs := [4]) (by kernel_rfl) (by simp) ?_
          refine AllReadyH.cons (o := ?oi22) ?hi22 (fun K hK => ?st22) AllReadyH.nil
          case hi22 => rw [List.getElem?_toArray]; rfl
          go_simp
          refine (dec_n n n (Nat.le_refl _) (by omega) _).mono ?_
          rintro ee wr4 ⟨rfl, b4⟩
          replace HQ := hid (HQ.out.bel b4)
          replace HX := hid (HX.out.bel b4)
          replace HW := hid (HW.out.below b4)
          replace HZ := hid (HZ.out.to b4)
          clear b4
          go_wp2_with fail
          refine hK.out _ _ ?hS22 (fun hHeld => ?re22)
          case hS22 => exact SL.at' HW.out (by omega) HY0.out
          clear hK K
          (try simp only [Act.put, List.setIfInBounds_toArray, List.set_cons_zero, List.set_cons_succ])
          refine wpAnyH_take (i := 5) (oi := ?oi23) (v := .string ((⟨#[108, 111, 97, 100]⟩ : ByteArray) ++ decS n)) (fuel := 10) ?hi23 ?hs23 ?hf23 ?hr23 ?hq23 (Or.inl ⟨?hw23, ?hy23⟩) hHeld ?rest23
          case hi23 => rw [List.getElem?_toArray]; rfl
          case hq23 => exact fun _ _ _ h => h
          case hs23 | hf23 | hr23 => kernel_rfl
          case hw23 => rfl
          case hy23 => (intro w1 hSw; (try dsimp only at hSw); go_simp; omega)
          (try simp only [Act.put, List.setIfInBounds_toArray, List.set_cons_zero, List.set_cons_succ])
          refine wpAnyH_take (i := 6) (oi := ?oi24) (v := .bool false) (fuel := 9) ?hi24 ?hs24 ?hf24 ?hr24 ?hq24 (Or.inl ⟨?hw24, ?hy24⟩) hHeld ?rest24
          case hi24 => rw [List.getElem?_toArray]; rfl
          case hq24 => exact fun _ _ _ h => h
          case hs24 | hf24 | hr24 => kernel_rfl
          case hw24 => rfl
          case hy24 => (intro w1 hSw; (try dsimp only at hSw); go_simp; first | done | simp [hq1])
          (try simp only [Act.put, List.setIfInBounds_toArray, List.set_cons_zero, List.set_cons_succ])
          refine wpAnyH_take (i := 7) (oi := ?oi25) (v := ?v25) (fuel := 8) ?hi25 ?hs25 ?hf25 ?hr25 ?hq25 (Or.inl ⟨?hw25, ?hy25⟩) hHeld ?rest25
          case hi25 => rw [List.getElem?_toArray]; rfl
          case hq25 => exact fun _ _ _ h => h
          case hs25 | hf25 | hr25 => kernel_rfl
          case hw25 => rfl
          case hy25 => (intro w1 hSw; (try dsimp only at hSw); go_simp; try with_reducible rfl)
          (try simp only [Act.put, List.setIfInBounds_toArray, List.set_cons_zero, List.set_cons_succ])
          refine wpAnyH_take (i := 8) (oi := ?oi26) (v := ?v26) (fuel := 7) ?hi26 ?hs26 ?hf26 ?hr26 ?hq26 (Or.inl ⟨?hw26, ?hy26⟩) hHeld ?rest26
          case hi26 => rw [List.getElem?_toArray]; rfl
          case hq26 => exact fun _ _ _ h => h
          case hs26 | hf26 | hr26 => kernel_rfl
          case hw26 => rfl
          case hy26 => (intro w1 hSw; (try dsimp only at hSw); go_simp; try with_reducible rfl)
          (try simp only [Act.put, List.setIfInBounds_toArray, List.set_cons_zero, List.set_cons_succ])
          refine wpAnyH_take (i := 9) (oi := ?oi27) (v := ?v27) (fuel := 6) ?hi27 ?hs27 ?hf27 ?hr27 ?hq27 (Or.inl ⟨?hw27, ?hy27⟩) hHeld ?rest27
          case hi27 => rw [List.getElem?_toArray]; rfl
          case hq27 => exact fun _ _ _ h => h
          case hs27 | hf27 | hr27 => kernel_rfl
          case hw27 => rfl
          case hy27 => (intro w1 hSw; (try dsimp only at hSw); go_simp; try with_reducible rfl)
          (try simp only [Act.put, List.setIfInBounds_toArray, List.set_cons_zero, List.set_cons_succ])
          refine wpAnyH_take (i := 10) (oi := ?oi28) (v := ?v28) (fuel := 5) ?hi28 ?hs28 ?hf28 ?hr28 ?hq28 (Or.inl ⟨?hw28, ?hy28⟩) hHeld ?rest28
          case hi28 => rw [List.getElem?_toArray]; rfl
          case hq28 => exact fun _ _ _ h => h
          case hs28 | hf28 | hr28 => kernel_rfl
          case hw28 => rfl
          case hy28 => (intro w1 hSw; (try dsimp only at hSw); go_simp; try with_reducible rfl)
          (try simp only [Act.put, List.setIfInBounds_toArray, List.set_cons_zero, List.set_cons_succ])
          refine wpAnyH_take (i := 11) (oi := ?oi29) (v := ?v29) (fuel := 4) ?hi29 ?hs29 ?hf29 ?hr29 ?hq29 (Or.inl ⟨?hw29, ?hy29⟩) hHeld ?rest29
          case hi29 => rw [List.getElem?_toArray]; rfl
          case hq29 => exact fun _ _ _ h => h
          case hs29 | hf29 | hr29 => kernel_rfl
          case hw29 => rfl
          case hy29 => (intro w1 hSw; (try dsimp only at hSw); go_simp; try with_reducible rfl)
          (try simp only [Act.put, List.setIfInBounds_toArray, List.set_cons_zero, List.set_cons_succ])
          refine wpAnyH_ready (fuel := 3) (rs := [12]) (by kernel_rfl) (by simp) ?_
          refine AllReadyH.cons (o := ?oi30) ?hi30 (fun K hK => ?st30) AllReadyH.nil
          case hi30 => rw [List.getElem?_toArray]; rfl
          go_simp
          refine (dec_n n n (Nat.le_refl _) (by omega) _).mono ?_
          rintro ee wr12 ⟨rfl, b12⟩
          replace HQ := hid (HQ.out.bel b12)
          replace HX := hid (HX.out.bel b12)
          replace HW := hid (HW.out.below b12)
          replace HZ := hid (HZ.out.to b12)
          clear b12
          go_wp2_with fail
          refine hK.out _ _ ?hS30 (fun hHeld => ?re30)
          case hS30 => exact SL.at' HW.out (by omega) HY0.out
          clear hK K
          (try simp only [Act.put, List.setIfInBounds_toArray, List.set_cons_zero, List.set_cons_succ])
          refine wpAnyH_take (i := 13) (oi := ?oi31) (v := .string ((⟨#[115, 116, 111, 114, 101]⟩ : ByteArray) ++ decS n)) (fuel := 2) ?hi31 ?hs31 ?hf31 ?hr31 ?hq31 (Or.inl ⟨?hw31, ?hy31⟩) hHeld ?rest31
          case hi31 => rw [List.getElem?_toArray]; rfl
          case hq31 => exact fun _ _ _ h => h
          case hs31 | hf31 | hr31 => kernel_rfl
          case hw31 => rfl
          case hy31 => (intro w1 hSw; (try dsimp only at hSw); go_simp; omega)
          (try simp only [Act.put, List.setIfInBounds_toArray, List.set_cons_zero, List.set_cons_succ])
          refine wpAnyH_take (i := 14) (oi := ?oi32) (v := .bool false) (fuel := 1) ?hi32 ?hs32 ?hf32 ?hr32 ?hq32 (Or.inl ⟨?hw32, ?hy32⟩) hHeld ?rest32
          case hi32 => rw [List.getElem?_toArray]; rfl
          case hq32 => exact fun _ _ _ h => h
          case hs32 | hf32 | hr32 => kernel_rfl
          case hw32 => rfl
          case hy32 => (intro w1 hSw; (try dsimp only at hSw); go_simp; first | done | simp [hq2])
          (try simp only [Act.put, List.setIfInBounds_toArray, List.set_cons_zero, List.set_cons_succ])
          refine wpAnyH_take (i := 15) (oi := ?oi33) (v := ?v33) (fuel := 0) ?hi33 ?hs33 ?hf33 ?hr33 ?hq33 (Or.inl ⟨?hw33, ?hy33⟩) hHeld ?rest33
          case hi33 => rw [List.getElem?_toArray]; rfl
          case hq33 => exact fun _ _ _ h => h
          case hs33 | hf33 | hr33 => kernel_rfl
          case hw33 => rfl
          case hy33 => (intro w1 hSw; (try dsimp only at hSw); go_simp; try with_reducible rfl)
          (try simp only [Act.put, List.setIfInBounds_toArray, List.set_cons_zero, List.set_cons_succ])
          refine wpAnyH_done (by kernel_rfl) ?_ _
          clear hHeld
          generalize wr12 = w5 at *
          go_wp2_with fail
          refine ⟨⟨n * 2, o, z, by rw [Int.natCast_mul]; rfl, by omega, HX.out, HQ.out, HW.out, HZ.out, o0, o1⟩, by simp [intOf]; omega⟩
        · have hq := hq2
          have hsz : 5 ≤ y0.size := by
            have := congrArg ByteArray.size ((str_eq _ _).1 hq)
            rw [ByteArray.size_append] at this
            have e : ((⟨#[115, 116, 111, 114, 101]⟩ : ByteArray)).size = 5 := rfl
            omega
          have hy1 : IntKind.i64.wrap ((y0.size : Int) - 1) = ((y0.size - 1 : Nat) : Int) := by rw [IntKind.wrap_i64]; omega
          have hyc : ((y0.size - 1 : Nat) : Int) ≤ (y0.size : Int) := by omega
          clear hq
          go_wp2_with fail
          refine wp_region_held_drew (S := (fun w' => w'.cell? ⟨g, 0, none⟩ = some (.string y0))) (by kernel_rfl) (by exact SL.at' HW.out (by omega) HY0.out) (fun hHeld => ?_)
          have hbd : Below wr.heap.size wr wr.drew := (Below.refl _ _).drew
          replace HQ := hid (HQ.out.bel hbd)
          replace HX := hid (HX.out.bel hbd)
          replace HW := hid (HW.out.below hbd)
          replace HZ := hid (HZ.out.to hbd)
          clear hbd
          generalize wr.drew = W1 at *
          refine wpAnyH_take (i := 0) (oi := ?oi34) (v := ?v34) (fuel := 15) ?hi34 ?hs34 ?hf34 ?hr34 ?hq34 (Or.inl ⟨?hw34, ?hy34⟩) hHeld ?rest34
          case hi34 => rw [List.getElem?_toArray]; rfl
          case hq34 => exact fun _ _ _ h => h
          case hs34 | hf34 | hr34 => kernel_rfl
          case hw34 => rfl
          case hy34 => (intro w1 hSw; (try dsimp only at hSw); go_simp; try with_reducible rfl)
          (try simp only [Act.put, List.setIfInBounds_toArray, List.set_cons_zero, List.set_cons_succ])
          refine wpAnyH_take (i := 1) (oi := ?oi35) (v := ?v35) (fuel := 14) ?hi35 ?hs35 ?hf35 ?hr35 ?hq35 (Or.inl ⟨?hw35, ?hy35⟩) hHeld ?rest35
          case hi35 => rw [List.getElem?_toArray]; rfl
          case hq35 => exact fun _ _ _ h => h
          case hs35 | hf35 | hr35 => kernel_rfl
          case hw35 => rfl
          case hy35 => (intro w1 hSw; (try dsimp only at hSw); go_simp; try with_reducible rfl)
          (try simp only [Act.put, List.setIfInBounds_toArray, List.set_cons_zero, List.set_cons_succ])
          refine wpAnyH_take (i := 2) (oi := ?oi36) (v := ?v36) (fuel := 13) ?hi36 ?hs36 ?hf36 ?hr36 ?hq36 (Or.inl ⟨?hw36, ?hy36⟩) hHeld ?rest36
          case hi36 => rw [List.getElem?_toArray]; rfl
          case hq36 => exact fun _ _ _ h => h
          case hs36 | hf36 | hr36 => kernel_rfl
          case hw36 => rfl
          case hy36 => (intro w1 hSw; (try dsimp only at hSw); go_simp; try with_reducible rfl)
          (try simp only [Act.put, List.setIfInBounds_toArray, List.set_cons_zero, List.set_cons_succ])
          refine wpAnyH_take (i := 3) (oi := ?oi37) (v := ?v37) (fuel := 12) ?hi37 ?hs37 ?hf37 ?hr37 ?hq37 (Or.inl ⟨?hw37, ?hy37⟩) hHeld ?rest37
          case hi37 => rw [List.getElem?_toArray]; rfl
          case hq37 => exact fun _ _ _ h => h
          case hs37 | hf37 | hr37 => kernel_rfl
          case hw37 => rfl
          case hy37 => (intro w1 hSw; (try dsimp only at hSw); go_simp; try with_reducible rfl)
          (try simp only [Act.put, List.setIfInBounds_toArray, List.set_cons_zero, List.set_cons_succ])
          refine wpAnyH_ready (fuel := 11) (rs := [4]) (by kernel_rfl) (by simp) ?_
          refine AllReadyH.cons (o := ?oi38) ?hi38 (fun K hK => ?st38) AllReadyH.nil
          case hi38 => rw [List.getElem?_toArray]; rfl
          go_simp
          refine (dec_n n n (Nat.le_refl _) (by omega) _).mono ?_
          rintro ee wr4 ⟨rfl, b4⟩
          replace HQ := hid (HQ.out.bel b4)
          replace HX := hid (HX.out.bel b4)
          replace HW := hid (HW.out.below b4)
          replace HZ := hid (HZ.out.to b4)
          clear b4
          go_wp2_with fail
          refine hK.out _ _ ?hS38 (fun hHeld => ?re38)
          case hS38 => exact SL.at' HW.out (by omega) HY0.out
          clear hK K
          (try simp only [Act.put, List.setIfInBounds_toArray, List.set_cons_zero, List.set_cons_succ])
          refine wpAnyH_take (i := 5) (oi := ?oi39) (v := .string ((⟨#[108, 111, 97, 100]⟩ : ByteArray) ++ decS n)) (fuel := 10) ?hi39 ?hs39 ?hf39 ?hr39 ?hq39 (Or.inl ⟨?hw39, ?hy39⟩) hHeld ?rest39
          case hi39 => rw [List.getElem?_toArray]; rfl
          case hq39 => exact fun _ _ _ h => h
          case hs39 | hf39 | hr39 => kernel_rfl
          case hw39 => rfl
          case hy39 => (intro w1 hSw; (try dsimp only at hSw); go_simp; omega)
          (try simp only [Act.put, List.setIfInBounds_toArray, List.set_cons_zero, List.set_cons_succ])
          refine wpAnyH_take (i := 6) (oi := ?oi40) (v := .bool false) (fuel := 9) ?hi40 ?hs40 ?hf40 ?hr40 ?hq40 (Or.inl ⟨?hw40, ?hy40⟩) hHeld ?rest40
          case hi40 => rw [List.getElem?_toArray]; rfl
          case hq40 => exact fun _ _ _ h => h
          case hs40 | hf40 | hr40 => kernel_rfl
          case hw40 => rfl
          case hy40 => (intro w1 hSw; (try dsimp only at hSw); go_simp; first | done | simp [hq1])
          (try simp only [Act.put, List.setIfInBounds_toArray, List.set_cons_zero, List.set_cons_succ])
          refine wpAnyH_take (i := 7) (oi := ?oi41) (v := ?v41) (fuel := 8) ?hi41 ?hs41 ?hf41 ?hr41 ?hq41 (Or.inl ⟨?hw41, ?hy41⟩) hHeld ?rest41
          case hi41 => rw [List.getElem?_toArray]; rfl
          case hq41 => exact fun _ _ _ h => h
          case hs41 | hf41 | hr41 => kernel_rfl
          case hw41 => rfl
          case hy41 => (intro w1 hSw; (try dsimp only at hSw); go_simp; try with_reducible rfl)
          (try simp only [Act.put, List.setIfInBounds_toArray, List.set_cons_zero, List.set_cons_succ])
          refine wpAnyH_take (i := 8) (oi := ?oi42) (v := ?v42) (fuel := 7) ?hi42 ?hs42 ?hf42 ?hr42 ?hq42 (Or.inl ⟨?hw42, ?hy42⟩) hHeld ?rest42
          case hi42 => rw [List.getElem?_toArray]; rfl
          case hq42 => exact fun _ _ _ h => h
          case hs42 | hf42 | hr42 => kernel_rfl
          case hw42 => rfl
          case hy42 => (intro w1 hSw; (try dsimp only at hSw); go_simp; try with_reducible rfl)
          (try simp only [Act.put, List.setIfInBounds_toArray, List.set_cons_zero, List.set_cons_succ])
          refine wpAnyH_take (i := 9) (oi := ?oi43) (v := ?v43) (fuel := 6) ?hi43 ?hs43 ?hf43 ?hr43 ?hq43 (Or.inl ⟨?hw43, ?hy43⟩) hHeld ?rest43
          case hi43 => rw [List.getElem?_toArray]; rfl
          case hq43 => exact fun _ _ _ h => h
          case hs43 | hf43 | hr43 => kernel_rfl
          case hw43 => rfl
          case hy43 => (intro w1 hSw; (try dsimp only at hSw); go_simp; try with_reducible rfl)
          (try simp only [Act.put, List.setIfInBounds_toArray, List.set_cons_zero, List.set_cons_succ])
          refine wpAnyH_take (i := 10) (oi := ?oi44) (v := ?v44) (fuel := 5) ?hi44 ?hs44 ?hf44 ?hr44 ?hq44 (Or.inl ⟨?hw44, ?hy44⟩) hHeld ?rest44
          case hi44 => rw [List.getElem?_toArray]; rfl
          case hq44 => exact fun _ _ _ h => h
          case hs44 | hf44 | hr44 => kernel_rfl
          case hw44 => rfl
          case hy44 => (intro w1 hSw; (try dsimp only at hSw); go_simp; try with_reducible rfl)
          (try simp only [Act.put, List.setIfInBounds_toArray, List.set_cons_zero, List.set_cons_succ])
          refine wpAnyH_take (i := 11) (oi := ?oi45) (v := ?v45) (fuel := 4) ?hi45 ?hs45 ?hf45 ?hr45 ?hq45 (Or.inl ⟨?hw45, ?hy45⟩) hHeld ?rest45
          case hi45 => rw [List.getElem?_toArray]; rfl
          case hq45 => exact fun _ _ _ h => h
          case hs45 | hf45 | hr45 => kernel_rfl
          case hw45 => rfl
          case hy45 => (intro w1 hSw; (try dsimp only at hSw); go_simp; try with_reducible rfl)
          (try simp only [Act.put, List.setIfInBounds_toArray, List.set_cons_zero, List.set_cons_succ])
          refine wpAnyH_ready (fuel := 3) (rs := [12]) (by kernel_rfl) (by simp) ?_
          refine AllReadyH.cons (o := ?oi46) ?hi46 (fun K hK => ?st46) AllReadyH.nil
          case hi46 => rw [List.getElem?_toArray]; rfl
          go_simp
          refine (dec_n n n (Nat.le_refl _) (by omega) _).mono ?_
          rintro ee wr12 ⟨rfl, b12⟩
          replace HQ := hid (HQ.out.bel b12)
          replace HX := hid (HX.out.bel b12)
          replace HW := hid (HW.out.below b12)
          replace HZ := hid (HZ.out.to b12)
          clear b12
          go_wp2_with fail
          refine hK.out _ _ ?hS46 (fun hHeld => ?re46)
          case hS46 => exact SL.at' HW.out (by omega) HY0.out
          clear hK K
          (try simp only [Act.put, List.setIfInBounds_toArray, List.set_cons_zero, List.set_cons_succ])
          refine wpAnyH_take (i := 13) (oi := ?oi47) (v := .string ((⟨#[115, 116, 111, 114, 101]⟩ : ByteArray) ++ decS n)) (fuel := 2) ?hi47 ?hs47 ?hf47 ?hr47 ?hq47 (Or.inl ⟨?hw47, ?hy47⟩) hHeld ?rest47
          case hi47 => rw [List.getElem?_toArray]; rfl
          case hq47 => exact fun _ _ _ h => h
          case hs47 | hf47 | hr47 => kernel_rfl
          case hw47 => rfl
          case hy47 => (intro w1 hSw; (try dsimp only at hSw); go_simp; omega)
          (try simp only [Act.put, List.setIfInBounds_toArray, List.set_cons_zero, List.set_cons_succ])
          refine wpAnyH_take (i := 14) (oi := ?oi48) (v := .bool true) (fuel := 1) ?hi48 ?hs48 ?hf48 ?hr48 ?hq48 (Or.inl ⟨?hw48, ?hy48⟩) hHeld ?rest48
          case hi48 => rw [List.getElem?_toArray]; rfl
          case hq48 => exact fun _ _ _ h => h
          case hs48 | hf48 | hr48 => kernel_rfl
          case hw48 => rfl
          case hy48 => (intro w1 hSw; (try dsimp only at hSw); go_simp; first | done | simp [hq2])
          (try simp only [Act.put, List.setIfInBounds_toArray, List.set_cons_zero, List.set_cons_succ])
          refine wpAnyH_take (i := 15) (oi := ?oi49) (v := ?v49) (fuel := 0) ?hi49 ?hs49 ?hf49 ?hr49 ?hq49 (Or.inl ⟨?hw49, ?hy49⟩) hHeld ?rest49
          case hi49 => rw [List.getElem?_toArray]; rfl
          case hq49 => exact fun _ _ _ h => h
          case hs49 | hf49 | hr49 => kernel_rfl
          case hw49 => rfl
          case hy49 => (intro w1 hSw; (try dsimp only at hSw); go_simp; try with_reducible rfl)
          (try simp only [Act.put, List.setIfInBounds_toArray, List.set_cons_zero, List.set_cons_succ])
          refine wpAnyH_done (by kernel_rfl) ?_ _
          clear hHeld
          generalize wr12 = w5 at *
          go_wp2_with fail
          refine wp_region_held_drew (S := (fun w' => w'.cell? ⟨g, 0, none⟩ = some (.string y0))) (by kernel_rfl) (by exact SL.at' HW.out (by omega) HY0.out) (fun hHeld => ?_)
          have hbd : Below w5.heap.size w5 w5.drew := (Below.refl _ _).drew
          replace HQ := hid (HQ.out.bel hbd)
          replace HX := hid (HX.out.bel hbd)
          replace HW := hid (HW.out.below hbd)
          replace HZ := hid (HZ.out.to hbd)
          clear hbd
          generalize w5.drew = W2 at *
          refine wpAnyH_take (i := 1) (oi := ?oi50) (v := ?v50) (fuel := 12) ?hi50 ?hs50 ?hf50 ?hr50 ?hq50 (Or.inl ⟨?hw50, ?hy50⟩) hHeld ?rest50
          case hi50 => rw [List.getElem?_toArray]; rfl
          case hq50 => exact fun _ _ _ h => h
          case hs50 | hf50 | hr50 => kernel_rfl
          case hw50 => rfl
          case hy50 => (intro w1 hSw; (try dsimp only at hSw); go_simp; try with_reducible rfl)
          (try simp only [Act.put, List.setIfInBounds_toArray, List.set_cons_zero, List.set_cons_succ])
          refine wpAnyH_take (i := 2) (oi := ?oi51) (v := ?v51) (fuel := 11) ?hi51 ?hs51 ?hf51 ?hr51 ?hq51 (Or.inl ⟨?hw51, ?hy51⟩) hHeld ?rest51
          case hi51 => rw [List.getElem?_toArray]; rfl
          case hq51 => exact fun _ _ _ h => h
          case hs51 | hf51 | hr51 => kernel_rfl
          case hw51 => rfl
          case hy51 => (intro w1 hSw; (try dsimp only at hSw); go_simp; try with_reducible rfl)
          (try simp only [Act.put, List.setIfInBounds_toArray, List.set_cons_zero, List.set_cons_succ])
          refine wpAnyH_take (i := 3) (oi := ?oi52) (v := ?v52) (fuel := 10) ?hi52 ?hs52 ?hf52 ?hr52 ?hq52 (Or.inl ⟨?hw52, ?hy52⟩) hHeld ?rest52
          case hi52 => rw [List.getElem?_toArray]; rfl
          case hq52 => exact fun _ _ _ h => h
          case hs52 | hf52 | hr52 => kernel_rfl
          case hw52 => rfl
          case hy52 => (intro w1 hSw; (try dsimp only at hSw); go_simp; try with_reducible rfl)
          (try simp only [Act.put, List.setIfInBounds_toArray, List.set_cons_zero, List.set_cons_succ])
          refine wpAnyH_take (i := 4) (oi := ?oi53) (v := ?v53) (fuel := 9) ?hi53 ?hs53 ?hf53 ?hr53 ?hq53 (Or.inl ⟨?hw53, ?hy53⟩) hHeld ?rest53
          case hi53 => rw [List.getElem?_toArray]; rfl
          case hq53 => exact fun _ _ _ h => h
          case hs53 | hf53 | hr53 => kernel_rfl
          case hw53 => rfl
          case hy53 => (intro w1 hSw; (try dsimp only at hSw); go_simp; try with_reducible rfl)
          (try simp only [Act.put, List.setIfInBounds_toArray, List.set_cons_zero, List.set_cons_succ])
          refine wpAnyH_take (i := 5) (oi := ?oi54) (v := ?v54) (fuel := 8) ?hi54 ?hs54 ?hf54 ?hr54 ?hq54 (Or.inl ⟨?hw54, ?hy54⟩) hHeld ?rest54
          case hi54 => rw [List.getElem?_toArray]; rfl
          case hq54 => exact fun _ _ _ h => h
          case hs54 | hf54 | hr54 => kernel_rfl
          case hw54 => rfl
          case hy54 => (intro w1 hSw; (try dsimp only at hSw); go_simp; try with_reducible rfl)
          (try simp only [Act.put, List.setIfInBounds_toArray, List.set_cons_zero, List.set_cons_succ])
          refine wpAnyH_take (i := 6) (oi := ?oi55) (v := ?v55) (fuel := 7) ?hi55 ?hs55 ?hf55 ?hr55 ?hq55 (Or.inl ⟨?hw55, ?hy55⟩) hHeld ?rest55
          case hi55 => rw [List.getElem?_toArray]; rfl
          case hq55 => exact fun _ _ _ h => h
          case hs55 | hf55 | hr55 => kernel_rfl
          case hw55 => rfl
          case hy55 => (intro w1 hSw; (try dsimp only at hSw); go_simp; try with_reducible rfl)
          (try simp only [Act.put, List.setIfInBounds_toArray, List.set_cons_zero, List.set_cons_succ])
          refine wpAnyH_take (i := 7) (oi := ?oi56) (v := ?v56) (fuel := 6) ?hi56 ?hs56 ?hf56 ?hr56 ?hq56 (Or.inl ⟨?hw56, ?hy56⟩) hHeld ?rest56
          case hi56 => rw [List.getElem?_toArray]; rfl
          case hq56 => exact fun _ _ _ h => h
          case hs56 | hf56 | hr56 => kernel_rfl
          case hw56 => rfl
          case hy56 => (intro w1 hSw; (try dsimp only at hSw); go_simp; try with_reducible rfl)
          (try simp only [Act.put, List.setIfInBounds_toArray, List.set_cons_zero, List.set_cons_succ])
          refine wpAnyH_take (i := 8) (oi := ?oi57) (v := .int .i64 ((y0.size - 1 : Nat) : Int)) (fuel := 5) ?hi57 ?hs57 ?hf57 ?hr57 ?hq57 (Or.inl ⟨?hw57, ?hy57⟩) hHeld ?rest57
          case hi57 => rw [List.getElem?_toArray]; rfl
          case hq57 => exact fun _ _ _ h => h
          case hs57 | hf57 | hr57 => kernel_rfl
          case hw57 => rfl
          case hy57 => (intro w1 hSw; (try dsimp only at hSw); go_simp; first | done | simp [hy1])
          (try simp only [Act.put, List.setIfInBounds_toArray, List.set_cons_zero, List.set_cons_succ])
          refine wpAnyH_take (i := 9) (oi := ?oi58) (v := ?v58) (fuel := 4) ?hi58 ?hs58 ?hf58 ?hr58 ?hq58 (Or.inl ⟨?hw58, ?hy58⟩) hHeld ?rest58
          case hi58 => rw [List.getElem?_toArray]; rfl
          case hq58 => exact fun _ _ _ h => h
          case hs58 | hf58 | hr58 => kernel_rfl
          case hw58 => rfl
          case hy58 => (intro w1 hSw; (try dsimp only at hSw); go_simp; try with_reducible rfl)
          (try simp only [Act.put, List.setIfInBounds_toArray, List.set_cons_zero, List.set_cons_succ])
          refine wpAnyH_ready (fuel := 3) (rs := [0]) (by kernel_rfl) (by simp) ?_
          refine AllReadyH.cons (o := ?oi59) ?hi59 (fun K hK => ?st59) AllReadyH.nil
          case hi59 => rw [List.getElem?_toArray]; rfl
          go_simp
          refine (words_w _).mono ?_
          rintro ee wr0 ⟨rfl, hsl, b0⟩
          have HSL := hid hsl
          clear hsl
          replace HQ := hid (HQ.out.bel b0)
          replace HX := hid (HX.out.bel b0)
          replace HW := hid (HW.out.below b0)
          replace HZ := hid (HZ.out.to b0)
          clear b0
          go_wp2_with fail
          generalize W2.heap.size = G at *
          refine hK.out _ _ ?hS59 (fun hHeld => ?re59)
          case hS59 => exact SL.at' HW.out (by omega) HY0.out
          clear hK K
          (try simp only [Act.put, List.setIfInBounds_toArray, List.set_cons_zero, List.set_cons_succ])
          refine wpAnyH_ready (fuel := 2) (rs := [10]) (by kernel_rfl) (by simp) ?_
          refine AllReadyH.cons (o := ?oi60) ?hi60 (fun K hK => ?st60) AllReadyH.nil
          case hi60 => rw [List.getElem?_toArray]; rfl
          go_simp
          refine (find_w wordsL G 21 rfl (by omega) _ _ HSL.out).mono ?_
          rintro ee wr10 ⟨⟨v, v0, v1, rfl⟩, b10⟩
          clear HSL
          replace HQ := hid (HQ.out.bel b10)
          replace HX := hid (HX.out.bel b10)
          replace HW := hid (HW.out.below b10)
          replace HZ := hid (HZ.out.to b10)
          clear b10
          go_wp2_with fail
          refine hK.out _ _ ?hS60 (fun hHeld => ?re60)
          case hS60 => exact SL.at' HW.out (by omega) HY0.out
          clear hK K
          (try simp only [Act.put, List.setIfInBounds_toArray, List.set_cons_zero, List.set_cons_succ])
          refine wpAnyH_take (i := 11) (oi := ?oi61) (v := ?v61) (fuel := 1) ?hi61 ?hs61 ?hf61 ?hr61 ?hq61 (Or.inl ⟨?hw61, ?hy61⟩) hHeld ?rest61
          case hi61 => rw [List.getElem?_toArray]; rfl
          case hq61 => exact fun _ _ _ h => h
          case hs61 | hf61 | hr61 => kernel_rfl
          case hw61 => rfl
          case hy61 => (intro w1 hSw; (try dsimp only at hSw); go_simp; try with_reducible rfl)
          (try simp only [Act.put, List.setIfInBounds_toArray, List.set_cons_zero, List.set_cons_succ])
          refine wpAnyH_ready (fuel := 0) (rs := [12]) (by kernel_rfl) (by simp) ?_
          refine AllReadyH.cons (o := ?oi62) ?hi62 (fun K hK => ?st62) AllReadyH.nil
          case hi62 => rw [List.getElem?_toArray]; rfl
          obtain ⟨x0, x1, x2, x3, x4, x5⟩ := Box6.cells HX.out
          have xl := Box6.lt HX.out
          have xf := Box6.frozen HX.out
          go_simp
          clear x0 x1 x2 x3 x4 x5 xl xf
          refine hK.out _ _ ?hS62 (fun hHeld => ?re62)
          case hS62 => exact SL.at' (SL.set (C := X) (j := 0) HW.out (.int .i64 v) (by omega)) (by omega) HY0.out
          clear hK K
          (try simp only [Act.put, List.setIfInBounds_toArray, List.set_cons_zero, List.set_cons_succ])
          refine wpAnyH_done (by kernel_rfl) ?_ _
          clear hHeld
          have h1 := Box6.set0 v HX.out
          have h2 := HQ.out.setO X 0 (.int .i64 v) (by omega)
          have h3 := SL.set (C := X) (j := 0) HW.out (.int .i64 v) (by omega)
          have h4 := HZ.out.setCell (p := ⟨X, 0, none⟩) (by show w.heap.size ≤ X; omega) (.int .i64 v)
          generalize wr10.setCell ⟨X, 0, none⟩ (.int .i64 v) = w6 at *
          replace HX := hid h1
          replace HQ := hid h2
          replace HW := hid h3
          replace HZ := hid h4
          clear h1 h2 h3 h4
          obtain ⟨x0, x1, x2, x3, x4, x5⟩ := Box6.cells HX.out
          have xl := Box6.lt HX.out
          have xf := Box6.frozen HX.out
          go_wp2_with fail
          clear x0 x1 x2 x3 x4 x5 xl xf
          have h1 := Box6.set5 n HX.out
          have h2 := HQ.out.setO X 5 (.int .i64 n) (by omega)
          have h3 := SL.set (C := X) (j := 5) HW.out (.int .i64 n) (by omega)
          have h4 := HZ.out.setCell (p := ⟨X, 5, none⟩) (by show w.heap.size ≤ X; omega) (.int .i64 n)
          refine ⟨⟨n * 2, v, n, by rw [Int.natCast_mul]; rfl, by omega, h1, h2, h3, h4, v0, v1⟩, by simp [intOf]; omega⟩
      · have hq := hq1
        have hsz : 4 ≤ y0.size := by
          have := congrArg ByteArray.size ((str_eq _ _).1 hq)
          rw [ByteArray.size_append] at this
          have e : ((⟨#[108, 111, 97, 100]⟩ : ByteArray)).size = 4 := rfl
          omega
        have hy1 : IntKind.i64.wrap ((y0.size : Int) - 1) = ((y0.size - 1 : Nat) : Int) := by rw [IntKind.wrap_i64]; omega
        have hyc : ((y0.size - 1 : Nat) : Int) ≤ (y0.size : Int) := by omega
        clear hq
        go_wp2_with fail
        refine wp_region_held_drew (S := (fun w' => w'.cell? ⟨g, 0, none⟩ = some (.string y0))) (by kernel_rfl) (by exact SL.at' HW.out (by omega) HY0.out) (fun hHeld => ?_)
        have hbd : Below wr.heap.size wr wr.drew := (Below.refl _ _).drew
        replace HQ := hid (HQ.out.bel hbd)
        replace HX := hid (HX.out.bel hbd)
        replace HW := hid (HW.out.below hbd)
        replace HZ := hid (HZ.out.to hbd)
        clear hbd
        generalize wr.drew = W1 at *
        refine wpAnyH_take (i := 0) (oi := ?oi63) (v := ?v63) (fuel := 15) ?hi63 ?hs63 ?hf63 ?hr63 ?hq63 (Or.inl ⟨?hw63, ?hy63⟩) hHeld ?rest63
        case hi63 => rw [List.getElem?_toArray]; rfl
        case hq63 => exact fun _ _ _ h => h
        case hs63 | hf63 | hr63 => kernel_rfl
        case hw63 => rfl
        case hy63 => (intro w1 hSw; (try dsimp only at hSw); go_simp; try with_reducible rfl)
        (try simp only [Act.put, List.setIfInBounds_toArray, List.set_cons_zero, List.set_cons_succ])
        refine wpAnyH_take (i := 1) (oi := ?oi64) (v := ?v64) (fuel := 14) ?hi64 ?hs64 ?hf64 ?hr64 ?hq64 (Or.inl ⟨?hw64, ?hy64⟩) hHeld ?rest64
        case hi64 => rw [List.getElem?_toArray]; rfl
        case hq64 => exact fun _ _ _ h => h
        case hs64 | hf64 | hr64 => kernel_rfl
        case hw64 => rfl
        case hy64 => (intro w1 hSw; (try dsimp only at hSw); go_simp; try with_reducible rfl)
        (try simp only [Act.put, List.setIfInBounds_toArray, List.set_cons_zero, List.set_cons_succ])
        refine wpAnyH_take (i := 2) (oi := ?oi65) (v := ?v65) (fuel := 13) ?hi65 ?hs65 ?hf65 ?hr65 ?hq65 (Or.inl ⟨?hw65, ?hy65⟩) hHeld ?rest65
        case hi65 => rw [List.getElem?_toArray]; rfl
        case hq65 => exact fun _ _ _ h => h
        case hs65 | hf65 | hr65 => kernel_rfl
        case hw65 => rfl
        case hy65 => (intro w1 hSw; (try dsimp only at hSw); go_simp; try with_reducible rfl)
        (try simp only [Act.put, List.setIfInBounds_toArray, List.set_cons_zero, List.set_cons_succ])
        refine wpAnyH_take (i := 3) (oi := ?oi66) (v := ?v66) (fuel := 12) ?hi66 ?hs66 ?hf66 ?hr66 ?hq66 (Or.inl ⟨?hw66, ?hy66⟩) hHeld ?rest66
        case hi66 => rw [List.getElem?_toArray]; rfl
        case hq66 => exact fun _ _ _ h => h
        case hs66 | hf66 | hr66 => kernel_rfl
        case hw66 => rfl
        case hy66 => (intro w1 hSw; (try dsimp only at hSw); go_simp; try with_reducible rfl)
        (try simp only [Act.put, List.setIfInBounds_toArray, List.set_cons_zero, List.set_cons_succ])
        refine wpAnyH_ready (fuel := 11) (rs := [4]) (by kernel_rfl) (by simp) ?_
        refine AllReadyH.cons (o := ?oi67) ?hi67 (fun K hK => ?st67) AllReadyH.nil
        case hi67 => rw [List.getElem?_toArray]; rfl
        go_simp
        refine (dec_n n n (Nat.le_refl _) (by omega) _).mono ?_
        rintro ee wr4 ⟨rfl, b4⟩
        replace HQ := hid (HQ.out.bel b4)
        replace HX := hid (HX.out.bel b4)
        replace HW := hid (HW.out.below b4)
        replace HZ := hid (HZ.out.to b4)
        clear b4
        go_wp2_with fail
        refine hK.out _ _ ?hS67 (fun hHeld => ?re67)
        case hS67 => exact SL.at' HW.out (by omega) HY0.out
        clear hK K
        (try simp only [Act.put, List.setIfInBounds_toArray, List.set_cons_zero, List.set_cons_succ])
        refine wpAnyH_take (i := 5) (oi := ?oi68) (v := .string ((⟨#[108, 111, 97, 100]⟩ : ByteArray) ++ decS n)) (fuel := 10) ?hi68 ?hs68 ?hf68 ?hr68 ?hq68 (Or.inl ⟨?hw68, ?hy68⟩) hHeld ?rest68
        case hi68 => rw [List.getElem?_toArray]; rfl
        case hq68 => exact fun _ _ _ h => h
        case hs68 | hf68 | hr68 => kernel_rfl
        case hw68 => rfl
        case hy68 => (intro w1 hSw; (try dsimp only at hSw); go_simp; omega)
        (try simp only [Act.put, List.setIfInBounds_toArray, List.set_cons_zero, List.set_cons_succ])
        refine wpAnyH_take (i := 6) (oi := ?oi69) (v := .bool true) (fuel := 9) ?hi69 ?hs69 ?hf69 ?hr69 ?hq69 (Or.inl ⟨?hw69, ?hy69⟩) hHeld ?rest69
        case hi69 => rw [List.getElem?_toArray]; rfl
        case hq69 => exact fun _ _ _ h => h
        case hs69 | hf69 | hr69 => kernel_rfl
        case hw69 => rfl
        case hy69 => (intro w1 hSw; (try dsimp only at hSw); go_simp; first | done | simp [hq1])
        (try simp only [Act.put, List.setIfInBounds_toArray, List.set_cons_zero, List.set_cons_succ])
        refine wpAnyH_take (i := 7) (oi := ?oi70) (v := ?v70) (fuel := 8) ?hi70 ?hs70 ?hf70 ?hr70 ?hq70 (Or.inl ⟨?hw70, ?hy70⟩) hHeld ?rest70
        case hi70 => rw [List.getElem?_toArray]; rfl
        case hq70 => exact fun _ _ _ h => h
        case hs70 | hf70 | hr70 => kernel_rfl
        case hw70 => rfl
        case hy70 => (intro w1 hSw; (try dsimp only at hSw); go_simp; try with_reducible rfl)
        (try simp only [Act.put, List.setIfInBounds_toArray, List.set_cons_zero, List.set_cons_succ])
        refine wpAnyH_take (i := 8) (oi := ?oi71) (v := undef) (fuel := 7) ?hi71 ?hs71 ?hf71 ?hr71 ?hq71 (Or.inr ⟨?hw71, rfl⟩) hHeld ?rest71
        case hi71 => rw [List.getElem?_toArray]; rfl
        case hq71 => exact fun _ _ _ h => h
        case hs71 | hf71 | hr71 => kernel_rfl
        case hw71 => rfl
        (try simp only [Act.put, List.setIfInBounds_toArray, List.set_cons_zero, List.set_cons_succ])
        refine wpAnyH_take (i := 9) (oi := ?oi72) (v := undef) (fuel := 6) ?hi72 ?hs72 ?hf72 ?hr72 ?hq72 (Or.inr ⟨?hw72, rfl⟩) hHeld ?rest72
        case hi72 => rw [List.getElem?_toArray]; rfl
        case hq72 => exact fun _ _ _ h => h
        case hs72 | hf72 | hr72 => kernel_rfl
        case hw72 => rfl
        (try simp only [Act.put, List.setIfInBounds_toArray, List.set_cons_zero, List.set_cons_succ])
        refine wpAnyH_take (i := 10) (oi := ?oi73) (v := undef) (fuel := 5) ?hi73 ?hs73 ?hf73 ?hr73 ?hq73 (Or.inr ⟨?hw73, rfl⟩) hHeld ?rest73
        case hi73 => rw [List.getElem?_toArray]; rfl
        case hq73 => exact fun _ _ _ h => h
        case hs73 | hf73 | hr73 => kernel_rfl
        case hw73 => rfl
        (try simp only [Act.put, List.setIfInBounds_toArray, List.set_cons_zero, List.set_cons_succ])
        refine wpAnyH_take (i := 11) (oi := ?oi74) (v := undef) (fuel := 4) ?hi74 ?hs74 ?hf74 ?hr74 ?hq74 (Or.inr ⟨?hw74, rfl⟩) hHeld ?rest74
        case hi74 => rw [List.getElem?_toArray]; rfl
        case hq74 => exact fun _ _ _ h => h
        case hs74 | hf74 | hr74 => kernel_rfl
        case hw74 => rfl
        (try simp only [Act.put, List.setIfInBounds_toArray, List.set_cons_zero, List.set_cons_succ])
        refine wpAnyH_take (i := 12) (oi := ?oi75) (v := undef) (fuel := 3) ?hi75 ?hs75 ?hf75 ?hr75 ?hq75 (Or.inr ⟨?hw75, rfl⟩) hHeld ?rest75
        case hi75 => rw [List.getElem?_toArray]; rfl
        case hq75 => exact fun _ _ _ h => h
        case hs75 | hf75 | hr75 => kernel_rfl
        case hw75 => rfl
        (try simp only [Act.put, List.setIfInBounds_toArray, List.set_cons_zero, List.set_cons_succ])
        refine wpAnyH_take (i := 13) (oi := ?oi76) (v := undef) (fuel := 2) ?hi76 ?hs76 ?hf76 ?hr76 ?hq76 (Or.inr ⟨?hw76, rfl⟩) hHeld ?rest76
        case hi76 => rw [List.getElem?_toArray]; rfl
        case hq76 => exact fun _ _ _ h => h
        case hs76 | hf76 | hr76 => kernel_rfl
        case hw76 => rfl
        (try simp only [Act.put, List.setIfInBounds_toArray, List.set_cons_zero, List.set_cons_succ])
        refine wpAnyH_take (i := 14) (oi := ?oi77) (v := undef) (fuel := 1) ?hi77 ?hs77 ?hf77 ?hr77 ?hq77 (Or.inr ⟨?hw77, rfl⟩) hHeld ?rest77
        case hi77 => rw [List.getElem?_toArray]; rfl
        case hq77 => exact fun _ _ _ h => h
        case hs77 | hf77 | hr77 => kernel_rfl
        case hw77 => rfl
        (try simp only [Act.put, List.setIfInBounds_toArray, List.set_cons_zero, List.set_cons_succ])
        refine wpAnyH_take (i := 15) (oi := ?oi78) (v := ?v78) (fuel := 0) ?hi78 ?hs78 ?hf78 ?hr78 ?hq78 (Or.inl ⟨?hw78, ?hy78⟩) hHeld ?rest78
        case hi78 => rw [List.getElem?_toArray]; rfl
        case hq78 => exact fun _ _ _ h => h
        case hs78 | hf78 | hr78 => kernel_rfl
        case hw78 => rfl
        case hy78 => (intro w1 hSw; (try dsimp only at hSw); go_simp; try with_reducible rfl)
        (try simp only [Act.put, List.setIfInBounds_toArray, List.set_cons_zero, List.set_cons_succ])
        refine wpAnyH_done (by kernel_rfl) ?_ _
        clear hHeld
        generalize wr4 = w5 at *
        go_wp2_with fail
        refine wp_region_held_drew (S := (fun w' => w'.cell? ⟨g, 0, none⟩ = some (.string y0))) (by kernel_rfl) (by exact SL.at' HW.out (by omega) HY0.out) (fun hHeld => ?_)
        have hbd : Below w5.heap.size w5 w5.drew := (Below.refl _ _).drew
        replace HQ := hid (HQ.out.bel hbd)
        replace HX := hid (HX.out.bel hbd)
        replace HW := hid (HW.out.below hbd)
        replace HZ := hid (HZ.out.to hbd)
        clear hbd
        generalize w5.drew = W2 at *
        refine wpAnyH_take (i := 1) (oi := ?oi79) (v := ?v79) (fuel := 12) ?hi79 ?hs79 ?hf79 ?hr79 ?hq79 (Or.inl ⟨?hw79, ?hy79⟩) hHeld ?rest79
        case hi79 => rw [List.getElem?_toArray]; rfl
        case hq79 => exact fun _ _ _ h => h
        case hs79 | hf79 | hr79 => kernel_rfl
        case hw79 => rfl
        case hy79 => (intro w1 hSw; (try dsimp only at hSw); go_simp; try with_reducible rfl)
        (try simp only [Act.put, List.setIfInBounds_toArray, List.set_cons_zero, List.set_cons_succ])
        refine wpAnyH_take (i := 2) (oi := ?oi80) (v := ?v80) (fuel := 11) ?hi80 ?hs80 ?hf80 ?hr80 ?hq80 (Or.inl ⟨?hw80, ?hy80⟩) hHeld ?rest80
        case hi80 => rw [List.getElem?_toArray]; rfl
        case hq80 => exact fun _ _ _ h => h
        case hs80 | hf80 | hr80 => kernel_rfl
        case hw80 => rfl
        case hy80 => (intro w1 hSw; (try dsimp only at hSw); go_simp; try with_reducible rfl)
        (try simp only [Act.put, List.setIfInBounds_toArray, List.set_cons_zero, List.set_cons_succ])
        refine wpAnyH_take (i := 3) (oi := ?oi81) (v := ?v81) (fuel := 10) ?hi81 ?hs81 ?hf81 ?hr81 ?hq81 (Or.inl ⟨?hw81, ?hy81⟩) hHeld ?rest81
        case hi81 => rw [List.getElem?_toArray]; rfl
        case hq81 => exact fun _ _ _ h => h
        case hs81 | hf81 | hr81 => kernel_rfl
        case hw81 => rfl
        case hy81 => (intro w1 hSw; (try dsimp only at hSw); go_simp; try with_reducible rfl)
        (try simp only [Act.put, List.setIfInBounds_toArray, List.set_cons_zero, List.set_cons_succ])
        refine wpAnyH_take (i := 4) (oi := ?oi82) (v := ?v82) (fuel := 9) ?hi82 ?hs82 ?hf82 ?hr82 ?hq82 (Or.inl ⟨?hw82, ?hy82⟩) hHeld ?rest82
        case hi82 => rw [List.getElem?_toArray]; rfl
        case hq82 => exact fun _ _ _ h => h
        case hs82 | hf82 | hr82 => kernel_rfl
        case hw82 => rfl
        case hy82 => (intro w1 hSw; (try dsimp only at hSw); go_simp; try with_reducible rfl)
        (try simp only [Act.put, List.setIfInBounds_toArray, List.set_cons_zero, List.set_cons_succ])
        refine wpAnyH_take (i := 5) (oi := ?oi83) (v := ?v83) (fuel := 8) ?hi83 ?hs83 ?hf83 ?hr83 ?hq83 (Or.inl ⟨?hw83, ?hy83⟩) hHeld ?rest83
        case hi83 => rw [List.getElem?_toArray]; rfl
        case hq83 => exact fun _ _ _ h => h
        case hs83 | hf83 | hr83 => kernel_rfl
        case hw83 => rfl
        case hy83 => (intro w1 hSw; (try dsimp only at hSw); go_simp; try with_reducible rfl)
        (try simp only [Act.put, List.setIfInBounds_toArray, List.set_cons_zero, List.set_cons_succ])
        refine wpAnyH_take (i := 6) (oi := ?oi84) (v := ?v84) (fuel := 7) ?hi84 ?hs84 ?hf84 ?hr84 ?hq84 (Or.inl ⟨?hw84, ?hy84⟩) hHeld ?rest84
        case hi84 => rw [List.getElem?_toArray]; rfl
        case hq84 => exact fun _ _ _ h => h
        case hs84 | hf84 | hr84 => kernel_rfl
        case hw84 => rfl
        case hy84 => (intro w1 hSw; (try dsimp only at hSw); go_simp; try with_reducible rfl)
        (try simp only [Act.put, List.setIfInBounds_toArray, List.set_cons_zero, List.set_cons_succ])
        refine wpAnyH_take (i := 7) (oi := ?oi85) (v := ?v85) (fuel := 6) ?hi85 ?hs85 ?hf85 ?hr85 ?hq85 (Or.inl ⟨?hw85, ?hy85⟩) hHeld ?rest85
        case hi85 => rw [List.getElem?_toArray]; rfl
        case hq85 => exact fun _ _ _ h => h
        case hs85 | hf85 | hr85 => kernel_rfl
        case hw85 => rfl
        case hy85 => (intro w1 hSw; (try dsimp only at hSw); go_simp; try with_reducible rfl)
        (try simp only [Act.put, List.setIfInBounds_toArray, List.set_cons_zero, List.set_cons_succ])
        refine wpAnyH_take (i := 8) (oi := ?oi86) (v := .int .i64 ((y0.size - 1 : Nat) : Int)) (fuel := 5) ?hi86 ?hs86 ?hf86 ?hr86 ?hq86 (Or.inl ⟨?hw86, ?hy86⟩) hHeld ?rest86
        case hi86 => rw [List.getElem?_toArray]; rfl
        case hq86 => exact fun _ _ _ h => h
        case hs86 | hf86 | hr86 => kernel_rfl
        case hw86 => rfl
        case hy86 => (intro w1 hSw; (try dsimp only at hSw); go_simp; first | done | simp [hy1])
        (try simp only [Act.put, List.setIfInBounds_toArray, List.set_cons_zero, List.set_cons_succ])
        refine wpAnyH_take (i := 9) (oi := ?oi87) (v := ?v87) (fuel := 4) ?hi87 ?hs87 ?hf87 ?hr87 ?hq87 (Or.inl ⟨?hw87, ?hy87⟩) hHeld ?rest87
        case hi87 => rw [List.getElem?_toArray]; rfl
        case hq87 => exact fun _ _ _ h => h
        case hs87 | hf87 | hr87 => kernel_rfl
        case hw87 => rfl
        case hy87 => (intro w1 hSw; (try dsimp only at hSw); go_simp; try with_reducible rfl)
        (try simp only [Act.put, List.setIfInBounds_toArray, List.set_cons_zero, List.set_cons_succ])
        refine wpAnyH_ready (fuel := 3) (rs := [0]) (by kernel_rfl) (by simp) ?_
        refine AllReadyH.cons (o := ?oi88) ?hi88 (fun K hK => ?st88) AllReadyH.nil
        case hi88 => rw [List.getElem?_toArray]; rfl
        go_simp
        refine (words_w _).mono ?_
        rintro ee wr0 ⟨rfl, hsl, b0⟩
        have HSL := hid hsl
        clear hsl
        replace HQ := hid (HQ.out.bel b0)
        replace HX := hid (HX.out.bel b0)
        replace HW := hid (HW.out.below b0)
        replace HZ := hid (HZ.out.to b0)
        clear b0
        go_wp2_with fail
        generalize W2.heap.size = G at *
        refine hK.out _ _ ?hS88 (fun hHeld => ?re88)
        case hS88 => exact SL.at' HW.out (by omega) HY0.out
        clear hK K
        (try simp only [Act.put, List.setIfInBounds_toArray, List.set_cons_zero, List.set_cons_succ])
        refine wpAnyH_ready (fuel := 2) (rs := [10]) (by kernel_rfl) (by simp) ?_
        refine AllReadyH.cons (o := ?oi89) ?hi89 (fun K hK => ?st89) AllReadyH.nil
        case hi89 => rw [List.getElem?_toArray]; rfl
        go_simp
        refine (find_w wordsL G 21 rfl (by omega) _ _ HSL.out).mono ?_
        rintro ee wr10 ⟨⟨v, v0, v1, rfl⟩, b10⟩
        clear HSL
        replace HQ := hid (HQ.out.bel b10)
        replace HX := hid (HX.out.bel b10)
        replace HW := hid (HW.out.below b10)
        replace HZ := hid (HZ.out.to b10)
        clear b10
        go_wp2_with fail
        refine hK.out _ _ ?hS89 (fun hHeld => ?re89)
        case hS89 => exact SL.at' HW.out (by omega) HY0.out
        clear hK K
        (try simp only [Act.put, List.setIfInBounds_toArray, List.set_cons_zero, List.set_cons_succ])
        refine wpAnyH_take (i := 11) (oi := ?oi90) (v := ?v90) (fuel := 1) ?hi90 ?hs90 ?hf90 ?hr90 ?hq90 (Or.inl ⟨?hw90, ?hy90⟩) hHeld ?rest90
        case hi90 => rw [List.getElem?_toArray]; rfl
        case hq90 => exact fun _ _ _ h => h
        case hs90 | hf90 | hr90 => kernel_rfl
        case hw90 => rfl
        case hy90 => (intro w1 hSw; (try dsimp only at hSw); go_simp; try with_reducible rfl)
        (try simp only [Act.put, List.setIfInBounds_toArray, List.set_cons_zero, List.set_cons_succ])
        refine wpAnyH_ready (fuel := 0) (rs := [12]) (by kernel_rfl) (by simp) ?_
        refine AllReadyH.cons (o := ?oi91) ?hi91 (fun K hK => ?st91) AllReadyH.nil
        case hi91 => rw [List.getElem?_toArray]; rfl
        obtain ⟨x0, x1, x2, x3, x4, x5⟩ := Box6.cells HX.out
        have xl := Box6.lt HX.out
        have xf := Box6.frozen HX.out
        go_simp
        clear x0 x1 x2 x3 x4 x5 xl xf
        refine hK.out _ _ ?hS91 (fun hHeld => ?re91)
        case hS91 => exact SL.at' (SL.set (C := X) (j := 0) HW.out (.int .i64 v) (by omega)) (by omega) HY0.out
        clear hK K
        (try simp only [Act.put, List.setIfInBounds_toArray, List.set_cons_zero, List.set_cons_succ])
        refine wpAnyH_done (by kernel_rfl) ?_ _
        clear hHeld
        have h1 := Box6.set0 v HX.out
        have h2 := HQ.out.setO X 0 (.int .i64 v) (by omega)
        have h3 := SL.set (C := X) (j := 0) HW.out (.int .i64 v) (by omega)
        have h4 := HZ.out.setCell (p := ⟨X, 0, none⟩) (by show w.heap.size ≤ X; omega) (.int .i64 v)
        generalize wr10.setCell ⟨X, 0, none⟩ (.int .i64 v) = w6 at *
        replace HX := hid h1
        replace HQ := hid h2
        replace HW := hid h3
        replace HZ := hid h4
        clear h1 h2 h3 h4
        obtain ⟨x0, x1, x2, x3, x4, x5⟩ := Box6.cells HX.out
        have xl := Box6.lt HX.out
        have xf := Box6.frozen HX.out
        go_wp2_with fail
        clear x0 x1 x2 x3 x4 x5 xl xf
        have h1 := Box6.set5 n HX.out
        have h2 := HQ.out.setO X 5 (.int .i64 n) (by omega)
        have h3 := SL.set (C := X) (j := 5) HW.out (.int .i64 n) (by omega)
        have h4 := HZ.out.setCell (p := ⟨X, 5, none⟩) (by show w.heap.size ≤ X; omega) (.int .i64 n)
        refine ⟨⟨n * 2, v, n, by rw [Int.natCast_mul]; rfl, by omega, h1, h2, h3, h4, v0, v1⟩, by simp [intOf]; omega⟩

end Go.Proofs.Ytkaekiodjjhjkaa
