/- The law FnTidy, drawn. -/
import Derived.Test.YteiglpijjffneaaYD
namespace Go.Proofs.Yteiglpijjffneaa
open Go.RowKit
set_option linter.unusedVariables false
set_option linter.unusedSimpArgs false

theorem least_same {L H B O n x y z u : Nat} {lo hi b o : Int} (h : Least lo hi b o L H B O n) (hok : OkN x y z u) (hh : ∀ m, OfN L H B O m ↔ OfN x y z u m) : AnsI 20 #[rv x y z u] n := by
  rcases least_cases x y z u with ⟨L', H', B', O', n', h2⟩ | h2
  · obtain rfl : x = L' := by have := h2.e1; omega
    obtain rfl : y = H' := by have := h2.e2; omega
    obtain rfl : z = B' := by have := h2.e3; omega
    obtain rfl : u = O' := by have := h2.e4; omega
    have a1 := h.least n' ((hh n').2 h2.of)
    have a2 := h2.least n ((hh n).1 h.of)
    obtain rfl : n = n' := by omega
    exact h2.imp
  · exact (h2.nok hok ((hh n).1 h.of)).elim

set_option maxRecDepth 100000 in
set_option maxHeartbeats 4000000 in
theorem law_fnTidy (w : World) (a : Option Addr) (len cap : Nat) (hc : len ≤ cap) (hs : Src w a len) (hl : cap < 2 ^ 63) (a1 : Option Addr) (len1 cap1 : Nat) (hc1 : len1 ≤ cap1) (hs1 : Src w a1 len1) (hl1 : cap1 < 2 ^ 63) :
    Calls Try.prog 6 #[.slice a len cap, .slice a1 len1 cap1] w fun e w' => e = .returned (.bool true) ∧ Below w.heap.size w w' := by
  have HS := hid hs
  have HS1 := hid hs1
  clear hs hs1
  by_cases hbig : (len : Int) > 1048576
  · go_enter Try.func6, Try.ntmps6
    go_wp2_with fail
    go_ret
    exact ⟨rfl, Below.refl _ _⟩
  by_cases hbig1 : (len1 : Int) > 1048576
  · go_enter Try.func6, Try.ntmps6
    go_wp2_with fail
    go_ret
    exact ⟨rfl, Below.refl _ _⟩
  go_enter Try.func6, Try.ntmps6
  go_wp2_with fail
  refine (drawRangeTidy_s w a len cap hc HS.out hl).mono ?_
  rintro e w1 ⟨⟨lo, hi, b, o, rfl, les⟩, hb1⟩
  have bel1 := hid hb1
  clear hb1
  go_wp2_with fail
  have bX2 := hid (RBox.new w1 (lo) (hi) (b) (o))
  have bel2 := hid (bel1.out.alloc bel1.out.size (cellsR4 (lo) (hi) (b) (o)))
  have leX := bel1.out.size
  clear  bel1
  generalize w1.alloc (cellsR4 (lo) (hi) (b) (o)) = w2 at *
  generalize w1.heap.size = X at *
  rcases least_cases lo hi b o with ⟨L, H, B, O, m, hL⟩ | hE
  rotate_left
  · obtain ⟨c1, c2⟩ := hE.tidy
    have A1 := hid c1
    have A2 := hid c2
    have A3 := hid hE.imps
    clear hE c1 c2 les
    obtain ⟨cX0, cX1, cX2, cX3⟩ := RBox.box bX2.out
    go_wp2_with fail
    refine (A1.out _).mono ?_
    rintro e w3 ⟨rfl, hb3⟩
    have bX3 := hid (bX2.out.below hb3)
    have bel3 := hid (bel2.out.to hb3)
    clear hb3 bX2 bel2
    go_wp2_with fail
    have bX4 := hid (bX3.out.alloc (cellsR4 (1) (0) (0) (0)))
    have neZX := RBox.lt bX3.out
    have bZ4 := hid (RBox.new w3 (1) (0) (0) (0))
    have bel4 := hid (bel3.out.alloc bel3.out.size (cellsR4 (1) (0) (0) (0)))
    have leZ := bel3.out.size
    clear bX3 bel3
    generalize w3.alloc (cellsR4 (1) (0) (0) (0)) = w4 at *
    generalize w3.heap.size = Z at *
    cases hq : okB lo hi b o
    · have A4 := hid (ans_ok lo hi b o hq)
      clear hq
      refine wp_region_held_drew (S := (fun w' => w'.cell? ⟨X, 0, none⟩ = some (.int .i64 (lo)) ∧ w'.cell? ⟨X, 1, none⟩ = some (.int .i64 (hi)) ∧ w'.cell? ⟨X, 2, none⟩ = some (.int .i64 (b)) ∧ w'.cell? ⟨X, 3, none⟩ = some (.int .i64 (o)) ∧ w'.cell? ⟨Z, 0, none⟩ = some (.int .i64 (1)) ∧ w'.cell? ⟨Z, 1, none⟩ = some (.int .i64 (0)) ∧ w'.cell? ⟨Z, 2, none⟩ = some (.int .i64 (0)) ∧ w'.cell? ⟨Z, 3, none⟩ = some (.int .i64 (0)))) (by kernel_rfl) (by exact ⟨(RBox.box bX4.out).c0, (RBox.box bX4.out).c1, (RBox.box bX4.out).c2, (RBox.box bX4.out).c3, (RBox.box bZ4.out).c0, (RBox.box bZ4.out).c1, (RBox.box bZ4.out).c2, (RBox.box bZ4.out).c3⟩) (fun hHeld => ?_)
      have hX := hid (RBox.drew bX4.out)
      have hZ := hid (RBox.drew bZ4.out)
      have hbel := hid (Below.drew bel4.out)
      clear bX4 bZ4 bel4
      generalize w4.drew = W1 at *
      refine wpAnyH_take (i := 0) (oi := ?oi33) (v := ?v33) (fuel := 13) ?hi33 ?hs33 ?hf33 ?hr33 ?hq33 (Or.inl ⟨?hw33, ?hy33⟩) hHeld ?rest33
      case hi33 => rw [List.getElem?_toArray]; rfl
      case hq33 => exact fun _ _ _ h => h
      case hs33 | hf33 | hr33 => kernel_rfl
      case hw33 => rfl
      case hy33 => (intro w1 hSw; (try dsimp only at hSw); go_simp; try with_reducible rfl)
      (try simp only [Act.put, List.setIfInBounds_toArray, List.set_cons_zero, List.set_cons_succ])
      refine wpAnyH_take (i := 1) (oi := ?oi34) (v := ?v34) (fuel := 12) ?hi34 ?hs34 ?hf34 ?hr34 ?hq34 (Or.inl ⟨?hw34, ?hy34⟩) hHeld ?rest34
      case hi34 => rw [List.getElem?_toArray]; rfl
      case hq34 => exact fun _ _ _ h => h
      case hs34 | hf34 | hr34 => kernel_rfl
      case hw34 => rfl
      case hy34 => (intro w1 hSw; (try dsimp only at hSw); go_simp; try with_reducible rfl)
      (try simp only [Act.put, List.setIfInBounds_toArray, List.set_cons_zero, List.set_cons_succ])
      refine wpAnyH_ready (fuel := 11) (rs := [2]) (by kernel_rfl) (by simp) ?_
      refine AllReadyH.cons (o := ?oi35) ?hi35 (fun K hK => ?st35) AllReadyH.nil
      case hi35 => rw [List.getElem?_toArray]; rfl
      go_simp
      refine (A2.out _).mono ?_
      rintro ee wr2 ⟨rfl, hbn⟩
      replace hX := hid (hX.out.below hbn)
      replace hZ := hid (hZ.out.below hbn)
      replace hbel := hid (hbel.out.to hbn)
      clear hbn
      go_wp2_with fail
      refine hK.out _ _ ?hS35 (fun hHeld => ?re35)
      case hS35 => exact ⟨(RBox.box hX.out).c0, (RBox.box hX.out).c1, (RBox.box hX.out).c2, (RBox.box hX.out).c3, (RBox.box hZ.out).c0, (RBox.box hZ.out).c1, (RBox.box hZ.out).c2, (RBox.box hZ.out).c3⟩
      clear hK K
      (try simp only [Act.put, List.setIfInBounds_toArray, List.set_cons_zero, List.set_cons_succ])
      refine wpAnyH_take (i := 3) (oi := ?oi36) (v := ?v36) (fuel := 10) ?hi36 ?hs36 ?hf36 ?hr36 ?hq36 (Or.inl ⟨?hw36, ?hy36⟩) hHeld ?rest36
      case hi36 => rw [List.getElem?_toArray]; rfl
      case hq36 => exact fun _ _ _ h => h
      case hs36 | hf36 | hr36 => kernel_rfl
      case hw36 => rfl
      case hy36 => (intro w1 hSw; (try dsimp only at hSw); go_simp; try with_reducible rfl)
      (try simp only [Act.put, List.setIfInBounds_toArray, List.set_cons_zero, List.set_cons_succ])
      refine wpAnyH_take (i := 4) (oi := ?oi37) (v := ?v37) (fuel := 9) ?hi37 ?hs37 ?hf37 ?hr37 ?hq37 (Or.inl ⟨?hw37, ?hy37⟩) hHeld ?rest37
      case hi37 => rw [List.getElem?_toArray]; rfl
      case hq37 => exact fun _ _ _ h => h
      case hs37 | hf37 | hr37 => kernel_rfl
      case hw37 => rfl
      case hy37 => (intro w1 hSw; (try dsimp only at hSw); go_simp; try with_reducible rfl)
      (try simp only [Act.put, List.setIfInBounds_toArray, List.set_cons_zero, List.set_cons_succ])
      refine wpAnyH_take (i := 5) (oi := ?oi38) (v := ?v38) (fuel := 8) ?hi38 ?hs38 ?hf38 ?hr38 ?hq38 (Or.inl ⟨?hw38, ?hy38⟩) hHeld ?rest38
      case hi38 => rw [List.getElem?_toArray]; rfl
      case hq38 => exact fun _ _ _ h => h
      case hs38 | hf38 | hr38 => kernel_rfl
      case hw38 => rfl
      case hy38 => (intro w1 hSw; (try dsimp only at hSw); go_simp; try with_reducible rfl)
      (try simp only [Act.put, List.setIfInBounds_toArray, List.set_cons_zero, List.set_cons_succ])
      refine wpAnyH_ready (fuel := 7) (rs := [6]) (by kernel_rfl) (by simp) ?_
      refine AllReadyH.cons (o := ?oi39) ?hi39 (fun K hK => ?st39) AllReadyH.nil
      case hi39 => rw [List.getElem?_toArray]; rfl
      go_simp
      refine (A4.out _).mono ?_
      rintro ee wr6 ⟨rfl, hbn⟩
      replace hX := hid (hX.out.below hbn)
      replace hZ := hid (hZ.out.below hbn)
      replace hbel := hid (hbel.out.to hbn)
      clear hbn
      go_wp2_with fail
      refine hK.out _ _ ?hS39 (fun hHeld => ?re39)
      case hS39 => exact ⟨(RBox.box hX.out).c0, (RBox.box hX.out).c1, (RBox.box hX.out).c2, (RBox.box hX.out).c3, (RBox.box hZ.out).c0, (RBox.box hZ.out).c1, (RBox.box hZ.out).c2, (RBox.box hZ.out).c3⟩
      clear hK K
      (try simp only [Act.put, List.setIfInBounds_toArray, List.set_cons_zero, List.set_cons_succ])
      refine wpAnyH_take (i := 7) (oi := ?oi40) (v := ?v40) (fuel := 6) ?hi40 ?hs40 ?hf40 ?hr40 ?hq40 (Or.inl ⟨?hw40, ?hy40⟩) hHeld ?rest40
      case hi40 => rw [List.getElem?_toArray]; rfl
      case hq40 => exact fun _ _ _ h => h
      case hs40 | hf40 | hr40 => kernel_rfl
      case hw40 => rfl
      case hy40 => (intro w1 hSw; (try dsimp only at hSw); go_simp; try with_reducible rfl)
      (try simp only [Act.put, List.setIfInBounds_toArray, List.set_cons_zero, List.set_cons_succ])
      refine wpAnyH_take (i := 8) (oi := ?oi41) (v := ?v41) (fuel := 5) ?hi41 ?hs41 ?hf41 ?hr41 ?hq41 (Or.inl ⟨?hw41, ?hy41⟩) hHeld ?rest41
      case hi41 => rw [List.getElem?_toArray]; rfl
      case hq41 => exact fun _ _ _ h => h
      case hs41 | hf41 | hr41 => kernel_rfl
      case hw41 => rfl
      case hy41 => (intro w1 hSw; (try dsimp only at hSw); go_simp; try with_reducible rfl)
      (try simp only [Act.put, List.setIfInBounds_toArray, List.set_cons_zero, List.set_cons_succ])
      refine wpAnyH_take (i := 9) (oi := ?oi42) (v := ?v42) (fuel := 4) ?hi42 ?hs42 ?hf42 ?hr42 ?hq42 (Or.inl ⟨?hw42, ?hy42⟩) hHeld ?rest42
      case hi42 => rw [List.getElem?_toArray]; rfl
      case hq42 => exact fun _ _ _ h => h
      case hs42 | hf42 | hr42 => kernel_rfl
      case hw42 => rfl
      case hy42 => (intro w1 hSw; (try dsimp only at hSw); go_simp; try with_reducible rfl)
      (try simp only [Act.put, List.setIfInBounds_toArray, List.set_cons_zero, List.set_cons_succ])
      refine wpAnyH_take (i := 10) (oi := ?oi43) (v := undef) (fuel := 3) ?hi43 ?hs43 ?hf43 ?hr43 ?hq43 (Or.inr ⟨?hw43, rfl⟩) hHeld ?rest43
      case hi43 => rw [List.getElem?_toArray]; rfl
      case hq43 => exact fun _ _ _ h => h
      case hs43 | hf43 | hr43 => kernel_rfl
      case hw43 => rfl
      (try simp only [Act.put, List.setIfInBounds_toArray, List.set_cons_zero, List.set_cons_succ])
      refine wpAnyH_take (i := 11) (oi := ?oi44) (v := undef) (fuel := 2) ?hi44 ?hs44 ?hf44 ?hr44 ?hq44 (Or.inr ⟨?hw44, rfl⟩) hHeld ?rest44
      case hi44 => rw [List.getElem?_toArray]; rfl
      case hq44 => exact fun _ _ _ h => h
      case hs44 | hf44 | hr44 => kernel_rfl
      case hw44 => rfl
      (try simp only [Act.put, List.setIfInBounds_toArray, List.set_cons_zero, List.set_cons_succ])
      refine wpAnyH_take (i := 12) (oi := ?oi45) (v := undef) (fuel := 1) ?hi45 ?hs45 ?hf45 ?hr45 ?hq45 (Or.inr ⟨?hw45, rfl⟩) hHeld ?rest45
      case hi45 => rw [List.getElem?_toArray]; rfl
      case hq45 => exact fun _ _ _ h => h
      case hs45 | hf45 | hr45 => kernel_rfl
      case hw45 => rfl
      (try simp only [Act.put, List.setIfInBounds_toArray, List.set_cons_zero, List.set_cons_succ])
      refine wpAnyH_take (i := 13) (oi := ?oi46) (v := ?v46) (fuel := 0) ?hi46 ?hs46 ?hf46 ?hr46 ?hq46 (Or.inl ⟨?hw46, ?hy46⟩) hHeld ?rest46
      case hi46 => rw [List.getElem?_toArray]; rfl
      case hq46 => exact fun _ _ _ h => h
      case hs46 | hf46 | hr46 => kernel_rfl
      case hw46 => rfl
      case hy46 => (intro w1 hSw; (try dsimp only at hSw); go_simp; try with_reducible rfl)
      (try simp only [Act.put, List.setIfInBounds_toArray, List.set_cons_zero, List.set_cons_succ])
      refine wpAnyH_done (by kernel_rfl) ?_ _
      clear hHeld
      generalize wr6 = w5 at *
      have bX5 := hX
      have bZ5 := hZ
      have bel5 := hbel
      clear hbel hX hZ
      go_wp2_with fail
      refine wp_region_held_drew (S := (fun w' => w'.cell? ⟨X, 0, none⟩ = some (.int .i64 (lo)) ∧ w'.cell? ⟨X, 1, none⟩ = some (.int .i64 (hi)) ∧ w'.cell? ⟨X, 2, none⟩ = some (.int .i64 (b)) ∧ w'.cell? ⟨X, 3, none⟩ = some (.int .i64 (o)) ∧ w'.cell? ⟨Z, 0, none⟩ = some (.int .i64 (1)) ∧ w'.cell? ⟨Z, 1, none⟩ = some (.int .i64 (0)) ∧ w'.cell? ⟨Z, 2, none⟩ = some (.int .i64 (0)) ∧ w'.cell? ⟨Z, 3, none⟩ = some (.int .i64 (0)))) (by kernel_rfl) (by exact ⟨(RBox.box bX5.out).c0, (RBox.box bX5.out).c1, (RBox.box bX5.out).c2, (RBox.box bX5.out).c3, (RBox.box bZ5.out).c0, (RBox.box bZ5.out).c1, (RBox.box bZ5.out).c2, (RBox.box bZ5.out).c3⟩) (fun hHeld => ?_)
      have hX := hid (RBox.drew bX5.out)
      have hZ := hid (RBox.drew bZ5.out)
      have hbel := hid (Below.drew bel5.out)
      clear bX5 bZ5 bel5
      generalize w5.drew = W1 at *
      refine wpAnyH_take (i := 0) (oi := ?oi47) (v := ?v47) (fuel := 4) ?hi47 ?hs47 ?hf47 ?hr47 ?hq47 (Or.inl ⟨?hw47, ?hy47⟩) hHeld ?rest47
      case hi47 => rw [List.getElem?_toArray]; rfl
      case hq47 => exact fun _ _ _ h => h
      case hs47 | hf47 | hr47 => kernel_rfl
      case hw47 => rfl
      case hy47 => (intro w1 hSw; (try dsimp only at hSw); go_simp; try with_reducible rfl)
      (try simp only [Act.put, List.setIfInBounds_toArray, List.set_cons_zero, List.set_cons_succ])
      refine wpAnyH_take (i := 1) (oi := ?oi48) (v := ?v48) (fuel := 3) ?hi48 ?hs48 ?hf48 ?hr48 ?hq48 (Or.inl ⟨?hw48, ?hy48⟩) hHeld ?rest48
      case hi48 => rw [List.getElem?_toArray]; rfl
      case hq48 => exact fun _ _ _ h => h
      case hs48 | hf48 | hr48 => kernel_rfl
      case hw48 => rfl
      case hy48 => (intro w1 hSw; (try dsimp only at hSw); go_simp; try with_reducible rfl)
      (try simp only [Act.put, List.setIfInBounds_toArray, List.set_cons_zero, List.set_cons_succ])
      refine wpAnyH_ready (fuel := 2) (rs := [2]) (by kernel_rfl) (by simp) ?_
      refine AllReadyH.cons (o := ?oi49) ?hi49 (fun K hK => ?st49) AllReadyH.nil
      case hi49 => rw [List.getElem?_toArray]; rfl
      go_simp
      refine (A2.out _).mono ?_
      rintro ee wr2 ⟨rfl, hbn⟩
      replace hX := hid (hX.out.below hbn)
      replace hZ := hid (hZ.out.below hbn)
      replace hbel := hid (hbel.out.to hbn)
      clear hbn
      go_wp2_with fail
      refine hK.out _ _ ?hS49 (fun hHeld => ?re49)
      case hS49 => exact ⟨(RBox.box hX.out).c0, (RBox.box hX.out).c1, (RBox.box hX.out).c2, (RBox.box hX.out).c3, (RBox.box hZ.out).c0, (RBox.box hZ.out).c1, (RBox.box hZ.out).c2, (RBox.box hZ.out).c3⟩
      clear hK K
      (try simp only [Act.put, List.setIfInBounds_toArray, List.set_cons_zero, List.set_cons_succ])
      refine wpAnyH_take (i := 3) (oi := ?oi50) (v := ?v50) (fuel := 1) ?hi50 ?hs50 ?hf50 ?hr50 ?hq50 (Or.inl ⟨?hw50, ?hy50⟩) hHeld ?rest50
      case hi50 => rw [List.getElem?_toArray]; rfl
      case hq50 => exact fun _ _ _ h => h
      case hs50 | hf50 | hr50 => kernel_rfl
      case hw50 => rfl
      case hy50 => (intro w1 hSw; (try dsimp only at hSw); go_simp; try with_reducible rfl)
      (try simp only [Act.put, List.setIfInBounds_toArray, List.set_cons_zero, List.set_cons_succ])
      refine wpAnyH_take (i := 4) (oi := ?oi51) (v := ?v51) (fuel := 0) ?hi51 ?hs51 ?hf51 ?hr51 ?hq51 (Or.inl ⟨?hw51, ?hy51⟩) hHeld ?rest51
      case hi51 => rw [List.getElem?_toArray]; rfl
      case hq51 => exact fun _ _ _ h => h
      case hs51 | hf51 | hr51 => kernel_rfl
      case hw51 => rfl
      case hy51 => (intro w1 hSw; (try dsimp only at hSw); go_simp; try with_reducible rfl)
      (try simp only [Act.put, List.setIfInBounds_toArray, List.set_cons_zero, List.set_cons_succ])
      refine wpAnyH_done (by kernel_rfl) ?_ _
      clear hHeld
      generalize wr2 = w6 at *
      have bX6 := hX
      have bZ6 := hZ
      have bel6 := hbel
      clear hbel hX hZ
      go_wp2_with fail
      go_ret
      exact ⟨rfl, bel6.out⟩
    · have A4 := hid (ans_ok lo hi b o hq)
      clear hq
      refine wp_region_held_drew (S := (fun w' => w'.cell? ⟨X, 0, none⟩ = some (.int .i64 (lo)) ∧ w'.cell? ⟨X, 1, none⟩ = some (.int .i64 (hi)) ∧ w'.cell? ⟨X, 2, none⟩ = some (.int .i64 (b)) ∧ w'.cell? ⟨X, 3, none⟩ = some (.int .i64 (o)) ∧ w'.cell? ⟨Z, 0, none⟩ = some (.int .i64 (1)) ∧ w'.cell? ⟨Z, 1, none⟩ = some (.int .i64 (0)) ∧ w'.cell? ⟨Z, 2, none⟩ = some (.int .i64 (0)) ∧ w'.cell? ⟨Z, 3, none⟩ = some (.int .i64 (0)))) (by kernel_rfl) (by exact ⟨(RBox.box bX4.out).c0, (RBox.box bX4.out).c1, (RBox.box bX4.out).c2, (RBox.box bX4.out).c3, (RBox.box bZ4.out).c0, (RBox.box bZ4.out).c1, (RBox.box bZ4.out).c2, (RBox.box bZ4.out).c3⟩) (fun hHeld => ?_)
      have hX := hid (RBox.drew bX4.out)
      have hZ := hid (RBox.drew bZ4.out)
      have hbel := hid (Below.drew bel4.out)
      clear bX4 bZ4 bel4
      generalize w4.drew = W1 at *
      refine wpAnyH_take (i := 0) (oi := ?oi52) (v := ?v52) (fuel := 13) ?hi52 ?hs52 ?hf52 ?hr52 ?hq52 (Or.inl ⟨?hw52, ?hy52⟩) hHeld ?rest52
      case hi52 => rw [List.getElem?_toArray]; rfl
      case hq52 => exact fun _ _ _ h => h
      case hs52 | hf52 | hr52 => kernel_rfl
      case hw52 => rfl
      case hy52 => (intro w1 hSw; (try dsimp only at hSw); go_simp; try with_reducible rfl)
      (try simp only [Act.put, List.setIfInBounds_toArray, List.set_cons_zero, List.set_cons_succ])
      refine wpAnyH_take (i := 1) (oi := ?oi53) (v := ?v53) (fuel := 12) ?hi53 ?hs53 ?hf53 ?hr53 ?hq53 (Or.inl ⟨?hw53, ?hy53⟩) hHeld ?rest53
      case hi53 => rw [List.getElem?_toArray]; rfl
      case hq53 => exact fun _ _ _ h => h
      case hs53 | hf53 | hr53 => kernel_rfl
      case hw53 => rfl
      case hy53 => (intro w1 hSw; (try dsimp only at hSw); go_simp; try with_reducible rfl)
      (try simp only [Act.put, List.setIfInBounds_toArray, List.set_cons_zero, List.set_cons_succ])
      refine wpAnyH_ready (fuel := 11) (rs := [2]) (by kernel_rfl) (by simp) ?_
      refine AllReadyH.cons (o := ?oi54) ?hi54 (fun K hK => ?st54) AllReadyH.nil
      case hi54 => rw [List.getElem?_toArray]; rfl
      go_simp
      refine (A2.out _).mono ?_
      rintro ee wr2 ⟨rfl, hbn⟩
      replace hX := hid (hX.out.below hbn)
      replace hZ := hid (hZ.out.below hbn)
      replace hbel := hid (hbel.out.to hbn)
      clear hbn
      go_wp2_with fail
      refine hK.out _ _ ?hS54 (fun hHeld => ?re54)
      case hS54 => exact ⟨(RBox.box hX.out).c0, (RBox.box hX.out).c1, (RBox.box hX.out).c2, (RBox.box hX.out).c3, (RBox.box hZ.out).c0, (RBox.box hZ.out).c1, (RBox.box hZ.out).c2, (RBox.box hZ.out).c3⟩
      clear hK K
      (try simp only [Act.put, List.setIfInBounds_toArray, List.set_cons_zero, List.set_cons_succ])
      refine wpAnyH_take (i := 3) (oi := ?oi55) (v := ?v55) (fuel := 10) ?hi55 ?hs55 ?hf55 ?hr55 ?hq55 (Or.inl ⟨?hw55, ?hy55⟩) hHeld ?rest55
      case hi55 => rw [List.getElem?_toArray]; rfl
      case hq55 => exact fun _ _ _ h => h
      case hs55 | hf55 | hr55 => kernel_rfl
      case hw55 => rfl
      case hy55 => (intro w1 hSw; (try dsimp only at hSw); go_simp; try with_reducible rfl)
      (try simp only [Act.put, List.setIfInBounds_toArray, List.set_cons_zero, List.set_cons_succ])
      refine wpAnyH_take (i := 4) (oi := ?oi56) (v := ?v56) (fuel := 9) ?hi56 ?hs56 ?hf56 ?hr56 ?hq56 (Or.inl ⟨?hw56, ?hy56⟩) hHeld ?rest56
      case hi56 => rw [List.getElem?_toArray]; rfl
      case hq56 => exact fun _ _ _ h => h
      case hs56 | hf56 | hr56 => kernel_rfl
      case hw56 => rfl
      case hy56 => (intro w1 hSw; (try dsimp only at hSw); go_simp; try with_reducible rfl)
      (try simp only [Act.put, List.setIfInBounds_toArray, List.set_cons_zero, List.set_cons_succ])
      refine wpAnyH_take (i := 5) (oi := ?oi57) (v := ?v57) (fuel := 8) ?hi57 ?hs57 ?hf57 ?hr57 ?hq57 (Or.inl ⟨?hw57, ?hy57⟩) hHeld ?rest57
      case hi57 => rw [List.getElem?_toArray]; rfl
      case hq57 => exact fun _ _ _ h => h
      case hs57 | hf57 | hr57 => kernel_rfl
      case hw57 => rfl
      case hy57 => (intro w1 hSw; (try dsimp only at hSw); go_simp; try with_reducible rfl)
      (try simp only [Act.put, List.setIfInBounds_toArray, List.set_cons_zero, List.set_cons_succ])
      refine wpAnyH_ready (fuel := 7) (rs := [6]) (by kernel_rfl) (by simp) ?_
      refine AllReadyH.cons (o := ?oi58) ?hi58 (fun K hK => ?st58) AllReadyH.nil
      case hi58 => rw [List.getElem?_toArray]; rfl
      go_simp
      refine (A4.out _).mono ?_
      rintro ee wr6 ⟨rfl, hbn⟩
      replace hX := hid (hX.out.below hbn)
      replace hZ := hid (hZ.out.below hbn)
      replace hbel := hid (hbel.out.to hbn)
      clear hbn
      go_wp2_with fail
      refine hK.out _ _ ?hS58 (fun hHeld => ?re58)
      case hS58 => exact ⟨(RBox.box hX.out).c0, (RBox.box hX.out).c1, (RBox.box hX.out).c2, (RBox.box hX.out).c3, (RBox.box hZ.out).c0, (RBox.box hZ.out).c1, (RBox.box hZ.out).c2, (RBox.box hZ.out).c3⟩
      clear hK K
      (try simp only [Act.put, List.setIfInBounds_toArray, List.set_cons_zero, List.set_cons_succ])
      refine wpAnyH_take (i := 7) (oi := ?oi59) (v := ?v59) (fuel := 6) ?hi59 ?hs59 ?hf59 ?hr59 ?hq59 (Or.inl ⟨?hw59, ?hy59⟩) hHeld ?rest59
      case hi59 => rw [List.getElem?_toArray]; rfl
      case hq59 => exact fun _ _ _ h => h
      case hs59 | hf59 | hr59 => kernel_rfl
      case hw59 => rfl
      case hy59 => (intro w1 hSw; (try dsimp only at hSw); go_simp; try with_reducible rfl)
      (try simp only [Act.put, List.setIfInBounds_toArray, List.set_cons_zero, List.set_cons_succ])
      refine wpAnyH_take (i := 8) (oi := ?oi60) (v := ?v60) (fuel := 5) ?hi60 ?hs60 ?hf60 ?hr60 ?hq60 (Or.inl ⟨?hw60, ?hy60⟩) hHeld ?rest60
      case hi60 => rw [List.getElem?_toArray]; rfl
      case hq60 => exact fun _ _ _ h => h
      case hs60 | hf60 | hr60 => kernel_rfl
      case hw60 => rfl
      case hy60 => (intro w1 hSw; (try dsimp only at hSw); go_simp; try with_reducible rfl)
      (try simp only [Act.put, List.setIfInBounds_toArray, List.set_cons_zero, List.set_cons_succ])
      refine wpAnyH_take (i := 9) (oi := ?oi61) (v := ?v61) (fuel := 4) ?hi61 ?hs61 ?hf61 ?hr61 ?hq61 (Or.inl ⟨?hw61, ?hy61⟩) hHeld ?rest61
      case hi61 => rw [List.getElem?_toArray]; rfl
      case hq61 => exact fun _ _ _ h => h
      case hs61 | hf61 | hr61 => kernel_rfl
      case hw61 => rfl
      case hy61 => (intro w1 hSw; (try dsimp only at hSw); go_simp; try with_reducible rfl)
      (try simp only [Act.put, List.setIfInBounds_toArray, List.set_cons_zero, List.set_cons_succ])
      refine wpAnyH_take (i := 10) (oi := ?oi62) (v := ?v62) (fuel := 3) ?hi62 ?hs62 ?hf62 ?hr62 ?hq62 (Or.inl ⟨?hw62, ?hy62⟩) hHeld ?rest62
      case hi62 => rw [List.getElem?_toArray]; rfl
      case hq62 => exact fun _ _ _ h => h
      case hs62 | hf62 | hr62 => kernel_rfl
      case hw62 => rfl
      case hy62 => (intro w1 hSw; (try dsimp only at hSw); go_simp; try with_reducible rfl)
      (try simp only [Act.put, List.setIfInBounds_toArray, List.set_cons_zero, List.set_cons_succ])
      refine wpAnyH_ready (fuel := 2) (rs := [11]) (by kernel_rfl) (by simp) ?_
      refine AllReadyH.cons (o := ?oi63) ?hi63 (fun K hK => ?st63) AllReadyH.nil
      case hi63 => rw [List.getElem?_toArray]; rfl
      go_simp
      refine (A3.out _).mono ?_
      rintro ee wr11 ⟨rfl, hbn⟩
      replace hX := hid (hX.out.below hbn)
      replace hZ := hid (hZ.out.below hbn)
      replace hbel := hid (hbel.out.to hbn)
      clear hbn
      go_wp2_with fail
      refine hK.out _ _ ?hS63 (fun hHeld => ?re63)
      case hS63 => exact ⟨(RBox.box hX.out).c0, (RBox.box hX.out).c1, (RBox.box hX.out).c2, (RBox.box hX.out).c3, (RBox.box hZ.out).c0, (RBox.box hZ.out).c1, (RBox.box hZ.out).c2, (RBox.box hZ.out).c3⟩
      clear hK K
      (try simp only [Act.put, List.setIfInBounds_toArray, List.set_cons_zero, List.set_cons_succ])
      refine wpAnyH_take (i := 12) (oi := ?oi64) (v := ?v64) (fuel := 1) ?hi64 ?hs64 ?hf64 ?hr64 ?hq64 (Or.inl ⟨?hw64, ?hy64⟩) hHeld ?rest64
      case hi64 => rw [List.getElem?_toArray]; rfl
      case hq64 => exact fun _ _ _ h => h
      case hs64 | hf64 | hr64 => kernel_rfl
      case hw64 => rfl
      case hy64 => (intro w1 hSw; (try dsimp only at hSw); go_simp; try with_reducible rfl)
      (try simp only [Act.put, List.setIfInBounds_toArray, List.set_cons_zero, List.set_cons_succ])
      refine wpAnyH_take (i := 13) (oi := ?oi65) (v := ?v65) (fuel := 0) ?hi65 ?hs65 ?hf65 ?hr65 ?hq65 (Or.inl ⟨?hw65, ?hy65⟩) hHeld ?rest65
      case hi65 => rw [List.getElem?_toArray]; rfl
      case hq65 => exact fun _ _ _ h => h
      case hs65 | hf65 | hr65 => kernel_rfl
      case hw65 => rfl
      case hy65 => (intro w1 hSw; (try dsimp only at hSw); go_simp; try with_reducible rfl)
      (try simp only [Act.put, List.setIfInBounds_toArray, List.set_cons_zero, List.set_cons_succ])
      refine wpAnyH_done (by kernel_rfl) ?_ _
      clear hHeld
      generalize wr11 = w5 at *
      have bX5 := hX
      have bZ5 := hZ
      have bel5 := hbel
      clear hbel hX hZ
      go_wp2_with fail
      refine wp_region_held_drew (S := (fun w' => w'.cell? ⟨X, 0, none⟩ = some (.int .i64 (lo)) ∧ w'.cell? ⟨X, 1, none⟩ = some (.int .i64 (hi)) ∧ w'.cell? ⟨X, 2, none⟩ = some (.int .i64 (b)) ∧ w'.cell? ⟨X, 3, none⟩ = some (.int .i64 (o)) ∧ w'.cell? ⟨Z, 0, none⟩ = some (.int .i64 (1)) ∧ w'.cell? ⟨Z, 1, none⟩ = some (.int .i64 (0)) ∧ w'.cell? ⟨Z, 2, none⟩ = some (.int .i64 (0)) ∧ w'.cell? ⟨Z, 3, none⟩ = some (.int .i64 (0)))) (by kernel_rfl) (by exact ⟨(RBox.box bX5.out).c0, (RBox.box bX5.out).c1, (RBox.box bX5.out).c2, (RBox.box bX5.out).c3, (RBox.box bZ5.out).c0, (RBox.box bZ5.out).c1, (RBox.box bZ5.out).c2, (RBox.box bZ5.out).c3⟩) (fun hHeld => ?_)
      have hX := hid (RBox.drew bX5.out)
      have hZ := hid (RBox.drew bZ5.out)
      have hbel := hid (Below.drew bel5.out)
      clear bX5 bZ5 bel5
      generalize w5.drew = W1 at *
      refine wpAnyH_take (i := 0) (oi := ?oi66) (v := ?v66) (fuel := 4) ?hi66 ?hs66 ?hf66 ?hr66 ?hq66 (Or.inl ⟨?hw66, ?hy66⟩) hHeld ?rest66
      case hi66 => rw [List.getElem?_toArray]; rfl
      case hq66 => exact fun _ _ _ h => h
      case hs66 | hf66 | hr66 => kernel_rfl
      case hw66 => rfl
      case hy66 => (intro w1 hSw; (try dsimp only at hSw); go_simp; try with_reducible rfl)
      (try simp only [Act.put, List.setIfInBounds_toArray, List.set_cons_zero, List.set_cons_succ])
      refine wpAnyH_take (i := 1) (oi := ?oi67) (v := ?v67) (fuel := 3) ?hi67 ?hs67 ?hf67 ?hr67 ?hq67 (Or.inl ⟨?hw67, ?hy67⟩) hHeld ?rest67
      case hi67 => rw [List.getElem?_toArray]; rfl
      case hq67 => exact fun _ _ _ h => h
      case hs67 | hf67 | hr67 => kernel_rfl
      case hw67 => rfl
      case hy67 => (intro w1 hSw; (try dsimp only at hSw); go_simp; try with_reducible rfl)
      (try simp only [Act.put, List.setIfInBounds_toArray, List.set_cons_zero, List.set_cons_succ])
      refine wpAnyH_ready (fuel := 2) (rs := [2]) (by kernel_rfl) (by simp) ?_
      refine AllReadyH.cons (o := ?oi68) ?hi68 (fun K hK => ?st68) AllReadyH.nil
      case hi68 => rw [List.getElem?_toArray]; rfl
      go_simp
      refine (A2.out _).mono ?_
      rintro ee wr2 ⟨rfl, hbn⟩
      replace hX := hid (hX.out.below hbn)
      replace hZ := hid (hZ.out.below hbn)
      replace hbel := hid (hbel.out.to hbn)
      clear hbn
      go_wp2_with fail
      refine hK.out _ _ ?hS68 (fun hHeld => ?re68)
      case hS68 => exact ⟨(RBox.box hX.out).c0, (RBox.box hX.out).c1, (RBox.box hX.out).c2, (RBox.box hX.out).c3, (RBox.box hZ.out).c0, (RBox.box hZ.out).c1, (RBox.box hZ.out).c2, (RBox.box hZ.out).c3⟩
      clear hK K
      (try simp only [Act.put, List.setIfInBounds_toArray, List.set_cons_zero, List.set_cons_succ])
      refine wpAnyH_take (i := 3) (oi := ?oi69) (v := ?v69) (fuel := 1) ?hi69 ?hs69 ?hf69 ?hr69 ?hq69 (Or.inl ⟨?hw69, ?hy69⟩) hHeld ?rest69
      case hi69 => rw [List.getElem?_toArray]; rfl
      case hq69 => exact fun _ _ _ h => h
      case hs69 | hf69 | hr69 => kernel_rfl
      case hw69 => rfl
      case hy69 => (intro w1 hSw; (try dsimp only at hSw); go_simp; try with_reducible rfl)
      (try simp only [Act.put, List.setIfInBounds_toArray, List.set_cons_zero, List.set_cons_succ])
      refine wpAnyH_take (i := 4) (oi := ?oi70) (v := ?v70) (fuel := 0) ?hi70 ?hs70 ?hf70 ?hr70 ?hq70 (Or.inl ⟨?hw70, ?hy70⟩) hHeld ?rest70
      case hi70 => rw [List.getElem?_toArray]; rfl
      case hq70 => exact fun _ _ _ h => h
      case hs70 | hf70 | hr70 => kernel_rfl
      case hw70 => rfl
      case hy70 => (intro w1 hSw; (try dsimp only at hSw); go_simp; try with_reducible rfl)
      (try simp only [Act.put, List.setIfInBounds_toArray, List.set_cons_zero, List.set_cons_succ])
      refine wpAnyH_done (by kernel_rfl) ?_ _
      clear hHeld
      generalize wr2 = w6 at *
      have bX6 := hX
      have bZ6 := hZ
      have bel6 := hbel
      clear hbel hX hZ
      go_wp2_with fail
      go_ret
      exact ⟨rfl, bel6.out⟩
  obtain ⟨x, y, z, u, hT, hTof, t1, t2, t3⟩ := hL.tidy
  obtain rfl : lo = L := by have := hL.e1; omega
  obtain rfl : hi = H := by have := hL.e2; omega
  obtain rfl : b = B := by have := hL.e3; omega
  obtain rfl : o = O := by have := hL.e4; omega
  have A1 := hid hT.imp
  have A2 := hid hT.spc
  have A3 := hid hL.imps
  have A4 := hid (ans_ok lo hi b o hL.okB)
  have A5 := hid (ans_ok x y z u (okB_of hT.ok))
  have A6 := hid (least_same hL hT.ok hTof)
  have A7 := hid hL.imp
  have EQ : Hid (∀ n : Int, hasI x y z u n = hasI lo hi b o n) := fun n => (hasI_eq hL.ok hT.ok hTof).symm
  have f1 : (x : Int) ≥ lo := by omega
  have f2 : (y : Int) ≤ hi := by omega
  have f3 := and_i64 u o (by have := hT.ok.o; omega) (by have := hL.ok.o; omega)
  rw [t3] at f3
  clear hL hT hTof t1 t2 t3 les
  obtain ⟨cX0, cX1, cX2, cX3⟩ := RBox.box bX2.out
  go_wp2_with fail
  refine (A1.out _).mono ?_
  rintro e w3 ⟨rfl, hb3⟩
  have bX3 := hid (bX2.out.below hb3)
  have bel3 := hid (bel2.out.to hb3)
  clear hb3 bX2 bel2
  go_wp2_with fail
  have bX4 := hid (bX3.out.alloc (cellsR4 (x) (y) (z) (u)))
  have neZX := RBox.lt bX3.out
  have bZ4 := hid (RBox.new w3 (x) (y) (z) (u))
  have bel4 := hid (bel3.out.alloc bel3.out.size (cellsR4 (x) (y) (z) (u)))
  have leZ := bel3.out.size
  clear bX3 bel3
  generalize w3.alloc (cellsR4 (x) (y) (z) (u)) = w4 at *
  generalize w3.heap.size = Z at *
  refine wp_region_held_drew (S := (fun w' => w'.cell? ⟨X, 0, none⟩ = some (.int .i64 (lo)) ∧ w'.cell? ⟨X, 1, none⟩ = some (.int .i64 (hi)) ∧ w'.cell? ⟨X, 2, none⟩ = some (.int .i64 (b)) ∧ w'.cell? ⟨X, 3, none⟩ = some (.int .i64 (o)) ∧ w'.cell? ⟨Z, 0, none⟩ = some (.int .i64 (x)) ∧ w'.cell? ⟨Z, 1, none⟩ = some (.int .i64 (y)) ∧ w'.cell? ⟨Z, 2, none⟩ = some (.int .i64 (z)) ∧ w'.cell? ⟨Z, 3, none⟩ = some (.int .i64 (u)))) (by kernel_rfl) (by exact ⟨(RBox.box bX4.out).c0, (RBox.box bX4.out).c1, (RBox.box bX4.out).c2, (RBox.box bX4.out).c3, (RBox.box bZ4.out).c0, (RBox.box bZ4.out).c1, (RBox.box bZ4.out).c2, (RBox.box bZ4.out).c3⟩) (fun hHeld => ?_)
  have hX := hid (RBox.drew bX4.out)
  have hZ := hid (RBox.drew bZ4.out)
  have hbel := hid (Below.drew bel4.out)
  clear bX4 bZ4 bel4
  generalize w4.drew = W1 at *
  refine wpAnyH_take (i := 0) (oi := ?oi71) (v := ?v71) (fuel := 13) ?hi71 ?hs71 ?hf71 ?hr71 ?hq71 (Or.inl ⟨?hw71, ?hy71⟩) hHeld ?rest71
  case hi71 => rw [List.getElem?_toArray]; rfl
  case hq71 => exact fun _ _ _ h => h
  case hs71 | hf71 | hr71 => kernel_rfl
  case hw71 => rfl
  case hy71 => (intro w1 hSw; (try dsimp only at hSw); go_simp; try with_reducible rfl)
  (try simp only [Act.put, List.setIfInBounds_toArray, List.set_cons_zero, List.set_cons_succ])
  refine wpAnyH_take (i := 1) (oi := ?oi72) (v := ?v72) (fuel := 12) ?hi72 ?hs72 ?hf72 ?hr72 ?hq72 (Or.inl ⟨?hw72, ?hy72⟩) hHeld ?rest72
  case hi72 => rw [List.getElem?_toArray]; rfl
  case hq72 => exact fun _ _ _ h => h
  case hs72 | hf72 | hr72 => kernel_rfl
  case hw72 => rfl
  case hy72 => (intro w1 hSw; (try dsimp only at hSw); go_simp; try with_reducible rfl)
  (try simp only [Act.put, List.setIfInBounds_toArray, List.set_cons_zero, List.set_cons_succ])
  refine wpAnyH_ready (fuel := 11) (rs := [2]) (by kernel_rfl) (by simp) ?_
  refine AllReadyH.cons (o := ?oi73) ?hi73 (fun K hK => ?st73) AllReadyH.nil
  case hi73 => rw [List.getElem?_toArray]; rfl
  go_simp
  refine (A2.out _).mono ?_
  rintro ee wr2 ⟨rfl, hbn⟩
  replace hX := hid (hX.out.below hbn)
  replace hZ := hid (hZ.out.below hbn)
  replace hbel := hid (hbel.out.to hbn)
  clear hbn
  go_wp2_with fail
  refine hK.out _ _ ?hS73 (fun hHeld => ?re73)
  case hS73 => exact ⟨(RBox.box hX.out).c0, (RBox.box hX.out).c1, (RBox.box hX.out).c2, (RBox.box hX.out).c3, (RBox.box hZ.out).c0, (RBox.box hZ.out).c1, (RBox.box hZ.out).c2, (RBox.box hZ.out).c3⟩
  clear hK K
  (try simp only [Act.put, List.setIfInBounds_toArray, List.set_cons_zero, List.set_cons_succ])
  refine wpAnyH_take (i := 3) (oi := ?oi74) (v := ?v74) (fuel := 10) ?hi74 ?hs74 ?hf74 ?hr74 ?hq74 (Or.inl ⟨?hw74, ?hy74⟩) hHeld ?rest74
  case hi74 => rw [List.getElem?_toArray]; rfl
  case hq74 => exact fun _ _ _ h => h
  case hs74 | hf74 | hr74 => kernel_rfl
  case hw74 => rfl
  case hy74 => (intro w1 hSw; (try dsimp only at hSw); go_simp; try with_reducible rfl)
  (try simp only [Act.put, List.setIfInBounds_toArray, List.set_cons_zero, List.set_cons_succ])
  refine wpAnyH_take (i := 4) (oi := ?oi75) (v := ?v75) (fuel := 9) ?hi75 ?hs75 ?hf75 ?hr75 ?hq75 (Or.inl ⟨?hw75, ?hy75⟩) hHeld ?rest75
  case hi75 => rw [List.getElem?_toArray]; rfl
  case hq75 => exact fun _ _ _ h => h
  case hs75 | hf75 | hr75 => kernel_rfl
  case hw75 => rfl
  case hy75 => (intro w1 hSw; (try dsimp only at hSw); go_simp; try with_reducible rfl)
  (try simp only [Act.put, List.setIfInBounds_toArray, List.set_cons_zero, List.set_cons_succ])
  refine wpAnyH_take (i := 5) (oi := ?oi76) (v := ?v76) (fuel := 8) ?hi76 ?hs76 ?hf76 ?hr76 ?hq76 (Or.inl ⟨?hw76, ?hy76⟩) hHeld ?rest76
  case hi76 => rw [List.getElem?_toArray]; rfl
  case hq76 => exact fun _ _ _ h => h
  case hs76 | hf76 | hr76 => kernel_rfl
  case hw76 => rfl
  case hy76 => (intro w1 hSw; (try dsimp only at hSw); go_simp; try with_reducible rfl)
  (try simp only [Act.put, List.setIfInBounds_toArray, List.set_cons_zero, List.set_cons_succ])
  refine wpAnyH_ready (fuel := 7) (rs := [6]) (by kernel_rfl) (by simp) ?_
  refine AllReadyH.cons (o := ?oi77) ?hi77 (fun K hK => ?st77) AllReadyH.nil
  case hi77 => rw [List.getElem?_toArray]; rfl
  go_simp
  refine (A4.out _).mono ?_
  rintro ee wr6 ⟨rfl, hbn⟩
  replace hX := hid (hX.out.below hbn)
  replace hZ := hid (hZ.out.below hbn)
  replace hbel := hid (hbel.out.to hbn)
  clear hbn
  go_wp2_with fail
  refine hK.out _ _ ?hS77 (fun hHeld => ?re77)
  case hS77 => exact ⟨(RBox.box hX.out).c0, (RBox.box hX.out).c1, (RBox.box hX.out).c2, (RBox.box hX.out).c3, (RBox.box hZ.out).c0, (RBox.box hZ.out).c1, (RBox.box hZ.out).c2, (RBox.box hZ.out).c3⟩
  clear hK K
  (try simp only [Act.put, List.setIfInBounds_toArray, List.set_cons_zero, List.set_cons_succ])
  refine wpAnyH_take (i := 7) (oi := ?oi78) (v := ?v78) (fuel := 6) ?hi78 ?hs78 ?hf78 ?hr78 ?hq78 (Or.inl ⟨?hw78, ?hy78⟩) hHeld ?rest78
  case hi78 => rw [List.getElem?_toArray]; rfl
  case hq78 => exact fun _ _ _ h => h
  case hs78 | hf78 | hr78 => kernel_rfl
  case hw78 => rfl
  case hy78 => (intro w1 hSw; (try dsimp only at hSw); go_simp; try with_reducible rfl)
  (try simp only [Act.put, List.setIfInBounds_toArray, List.set_cons_zero, List.set_cons_succ])
  refine wpAnyH_take (i := 8) (oi := ?oi79) (v := ?v79) (fuel := 5) ?hi79 ?hs79 ?hf79 ?hr79 ?hq79 (Or.inl ⟨?hw79, ?hy79⟩) hHeld ?rest79
  case hi79 => rw [List.getElem?_toArray]; rfl
  case hq79 => exact fun _ _ _ h => h
  case hs79 | hf79 | hr79 => kernel_rfl
  case hw79 => rfl
  case hy79 => (intro w1 hSw; (try dsimp only at hSw); go_simp; try with_reducible rfl)
  (try simp only [Act.put, List.setIfInBounds_toArray, List.set_cons_zero, List.set_cons_succ])
  refine wpAnyH_take (i := 9) (oi := ?oi80) (v := ?v80) (fuel := 4) ?hi80 ?hs80 ?hf80 ?hr80 ?hq80 (Or.inl ⟨?hw80, ?hy80⟩) hHeld ?rest80
  case hi80 => rw [List.getElem?_toArray]; rfl
  case hq80 => exact fun _ _ _ h => h
  case hs80 | hf80 | hr80 => kernel_rfl
  case hw80 => rfl
  case hy80 => (intro w1 hSw; (try dsimp only at hSw); go_simp; try with_reducible rfl)
  (try simp only [Act.put, List.setIfInBounds_toArray, List.set_cons_zero, List.set_cons_succ])
  refine wpAnyH_take (i := 10) (oi := ?oi81) (v := ?v81) (fuel := 3) ?hi81 ?hs81 ?hf81 ?hr81 ?hq81 (Or.inl ⟨?hw81, ?hy81⟩) hHeld ?rest81
  case hi81 => rw [List.getElem?_toArray]; rfl
  case hq81 => exact fun _ _ _ h => h
  case hs81 | hf81 | hr81 => kernel_rfl
  case hw81 => rfl
  case hy81 => (intro w1 hSw; (try dsimp only at hSw); go_simp; try with_reducible rfl)
  (try simp only [Act.put, List.setIfInBounds_toArray, List.set_cons_zero, List.set_cons_succ])
  refine wpAnyH_ready (fuel := 2) (rs := [11]) (by kernel_rfl) (by simp) ?_
  refine AllReadyH.cons (o := ?oi82) ?hi82 (fun K hK => ?st82) AllReadyH.nil
  case hi82 => rw [List.getElem?_toArray]; rfl
  go_simp
  refine (A3.out _).mono ?_
  rintro ee wr11 ⟨rfl, hbn⟩
  replace hX := hid (hX.out.below hbn)
  replace hZ := hid (hZ.out.below hbn)
  replace hbel := hid (hbel.out.to hbn)
  clear hbn
  go_wp2_with fail
  refine hK.out _ _ ?hS82 (fun hHeld => ?re82)
  case hS82 => exact ⟨(RBox.box hX.out).c0, (RBox.box hX.out).c1, (RBox.box hX.out).c2, (RBox.box hX.out).c3, (RBox.box hZ.out).c0, (RBox.box hZ.out).c1, (RBox.box hZ.out).c2, (RBox.box hZ.out).c3⟩
  clear hK K
  (try simp only [Act.put, List.setIfInBounds_toArray, List.set_cons_zero, List.set_cons_succ])
  refine wpAnyH_take (i := 12) (oi := ?oi83) (v := ?v83) (fuel := 1) ?hi83 ?hs83 ?hf83 ?hr83 ?hq83 (Or.inl ⟨?hw83, ?hy83⟩) hHeld ?rest83
  case hi83 => rw [List.getElem?_toArray]; rfl
  case hq83 => exact fun _ _ _ h => h
  case hs83 | hf83 | hr83 => kernel_rfl
  case hw83 => rfl
  case hy83 => (intro w1 hSw; (try dsimp only at hSw); go_simp; try with_reducible rfl)
  (try simp only [Act.put, List.setIfInBounds_toArray, List.set_cons_zero, List.set_cons_succ])
  refine wpAnyH_take (i := 13) (oi := ?oi84) (v := ?v84) (fuel := 0) ?hi84 ?hs84 ?hf84 ?hr84 ?hq84 (Or.inl ⟨?hw84, ?hy84⟩) hHeld ?rest84
  case hi84 => rw [List.getElem?_toArray]; rfl
  case hq84 => exact fun _ _ _ h => h
  case hs84 | hf84 | hr84 => kernel_rfl
  case hw84 => rfl
  case hy84 => (intro w1 hSw; (try dsimp only at hSw); go_simp; try with_reducible rfl)
  (try simp only [Act.put, List.setIfInBounds_toArray, List.set_cons_zero, List.set_cons_succ])
  refine wpAnyH_done (by kernel_rfl) ?_ _
  clear hHeld
  generalize wr11 = w5 at *
  have bX5 := hX
  have bZ5 := hZ
  have bel5 := hbel
  clear hbel hX hZ
  go_wp2_with fail
  refine (drawRangeHas_s _ a1 len1 cap1 hc1 (HS1.out.below bel5.out) hl1).mono ?_
  rintro e w6 ⟨⟨lo2, hi2, b2, o2, n, rfl, les2, hn2⟩, hb6⟩
  have bX6 := hid (bX5.out.below hb6)
  have bZ6 := hid (bZ5.out.below hb6)
  have bel6 := hid (bel5.out.to hb6)
  clear hb6 bX5 bZ5 bel5
  clear les2 hn2 HS HS1
  go_wp2_with fail
  have bX7 := hid (bX6.out.alloc (cellsR4 (lo2) (hi2) (b2) (o2)))
  have neSX := RBox.lt bX6.out
  have bZ7 := hid (bZ6.out.alloc (cellsR4 (lo2) (hi2) (b2) (o2)))
  have neSZ := RBox.lt bZ6.out
  have bS7 := hid (RBox.new w6 (lo2) (hi2) (b2) (o2))
  have bel7 := hid (bel6.out.alloc bel6.out.size (cellsR4 (lo2) (hi2) (b2) (o2)))
  have leS := bel6.out.size
  clear bX6 bZ6 bel6
  generalize w6.alloc (cellsR4 (lo2) (hi2) (b2) (o2)) = w7 at *
  generalize w6.heap.size = S at *
  have AX := hid (ans_has x y z u n (EQ.out n))
  have AR := hid (ans_has lo hi b o n rfl)
  generalize hasI lo hi b o n = q at AX AR
  clear EQ
  have d1 : decide (lo ≤ x) = true := by simp; omega
  have d2 : decide (y ≤ hi) = true := by simp; omega
  refine wp_region_held_drew (S := (fun w' => w'.cell? ⟨X, 0, none⟩ = some (.int .i64 (lo)) ∧ w'.cell? ⟨X, 1, none⟩ = some (.int .i64 (hi)) ∧ w'.cell? ⟨X, 2, none⟩ = some (.int .i64 (b)) ∧ w'.cell? ⟨X, 3, none⟩ = some (.int .i64 (o)) ∧ w'.cell? ⟨Z, 0, none⟩ = some (.int .i64 (x)) ∧ w'.cell? ⟨Z, 1, none⟩ = some (.int .i64 (y)) ∧ w'.cell? ⟨Z, 2, none⟩ = some (.int .i64 (z)) ∧ w'.cell? ⟨Z, 3, none⟩ = some (.int .i64 (u)))) (by kernel_rfl) (by exact ⟨(RBox.box bX7.out).c0, (RBox.box bX7.out).c1, (RBox.box bX7.out).c2, (RBox.box bX7.out).c3, (RBox.box bZ7.out).c0, (RBox.box bZ7.out).c1, (RBox.box bZ7.out).c2, (RBox.box bZ7.out).c3⟩) (fun hHeld => ?_)
  have hX := hid (RBox.drew bX7.out)
  have hZ := hid (RBox.drew bZ7.out)
  have hS := hid (RBox.drew bS7.out)
  have hbel := hid (Below.drew bel7.out)
  clear bX7 bZ7 bS7 bel7
  generalize w7.drew = W1 at *
  refine wpAnyH_take (i := 0) (oi := ?oi85) (v := ?v85) (fuel := 42) ?hi85 ?hs85 ?hf85 ?hr85 ?hq85 (Or.inl ⟨?hw85, ?hy85⟩) hHeld ?rest85
  case hi85 => rw [List.getElem?_toArray]; rfl
  case hq85 => exact fun _ _ _ h => h
  case hs85 | hf85 | hr85 => kernel_rfl
  case hw85 => rfl
  case hy85 => (intro w1 hSw; (try dsimp only at hSw); go_simp; try with_reducible rfl)
  (try simp only [Act.put, List.setIfInBounds_toArray, List.set_cons_zero, List.set_cons_succ])
  refine wpAnyH_ready (fuel := 41) (rs := [1]) (by kernel_rfl) (by simp) ?_
  refine AllReadyH.cons (o := ?oi86) ?hi86 (fun K hK => ?st86) AllReadyH.nil
  case hi86 => rw [List.getElem?_toArray]; rfl
  go_simp
  refine (A5.out _).mono ?_
  rintro ee wr1 ⟨rfl, hbn⟩
  replace hX := hid (hX.out.below hbn)
  replace hZ := hid (hZ.out.below hbn)
  replace hS := hid (hS.out.below hbn)
  replace hbel := hid (hbel.out.to hbn)
  clear hbn
  go_wp2_with fail
  refine hK.out _ _ ?hS86 (fun hHeld => ?re86)
  case hS86 => exact ⟨(RBox.box hX.out).c0, (RBox.box hX.out).c1, (RBox.box hX.out).c2, (RBox.box hX.out).c3, (RBox.box hZ.out).c0, (RBox.box hZ.out).c1, (RBox.box hZ.out).c2, (RBox.box hZ.out).c3⟩
  clear hK K
  (try simp only [Act.put, List.setIfInBounds_toArray, List.set_cons_zero, List.set_cons_succ])
  refine wpAnyH_take (i := 2) (oi := ?oi87) (v := ?v87) (fuel := 40) ?hi87 ?hs87 ?hf87 ?hr87 ?hq87 (Or.inl ⟨?hw87, ?hy87⟩) hHeld ?rest87
  case hi87 => rw [List.getElem?_toArray]; rfl
  case hq87 => exact fun _ _ _ h => h
  case hs87 | hf87 | hr87 => kernel_rfl
  case hw87 => rfl
  case hy87 => (intro w1 hSw; (try dsimp only at hSw); go_simp; try with_reducible rfl)
  (try simp only [Act.put, List.setIfInBounds_toArray, List.set_cons_zero, List.set_cons_succ])
  refine wpAnyH_take (i := 3) (oi := ?oi88) (v := ?v88) (fuel := 39) ?hi88 ?hs88 ?hf88 ?hr88 ?hq88 (Or.inl ⟨?hw88, ?hy88⟩) hHeld ?rest88
  case hi88 => rw [List.getElem?_toArray]; rfl
  case hq88 => exact fun _ _ _ h => h
  case hs88 | hf88 | hr88 => kernel_rfl
  case hw88 => rfl
  case hy88 => (intro w1 hSw; (try dsimp only at hSw); go_simp; try with_reducible rfl)
  (try simp only [Act.put, List.setIfInBounds_toArray, List.set_cons_zero, List.set_cons_succ])
  refine wpAnyH_take (i := 4) (oi := ?oi89) (v := ?v89) (fuel := 38) ?hi89 ?hs89 ?hf89 ?hr89 ?hq89 (Or.inl ⟨?hw89, ?hy89⟩) hHeld ?rest89
  case hi89 => rw [List.getElem?_toArray]; rfl
  case hq89 => exact fun _ _ _ h => h
  case hs89 | hf89 | hr89 => kernel_rfl
  case hw89 => rfl
  case hy89 => (intro w1 hSw; (try dsimp only at hSw); go_simp; try with_reducible rfl)
  (try simp only [Act.put, List.setIfInBounds_toArray, List.set_cons_zero, List.set_cons_succ])
  refine wpAnyH_take (i := 6) (oi := ?oi90) (v := ?v90) (fuel := 37) ?hi90 ?hs90 ?hf90 ?hr90 ?hq90 (Or.inl ⟨?hw90, ?hy90⟩) hHeld ?rest90
  case hi90 => rw [List.getElem?_toArray]; rfl
  case hq90 => exact fun _ _ _ h => h
  case hs90 | hf90 | hr90 => kernel_rfl
  case hw90 => rfl
  case hy90 => (intro w1 hSw; (try dsimp only at hSw); go_simp; try with_reducible rfl)
  (try simp only [Act.put, List.setIfInBounds_toArray, List.set_cons_zero, List.set_cons_succ])
  refine wpAnyH_take (i := 7) (oi := ?oi91) (v := ?v91) (fuel := 36) ?hi91 ?hs91 ?hf91 ?hr91 ?hq91 (Or.inl ⟨?hw91, ?hy91⟩) hHeld ?rest91
  case hi91 => rw [List.getElem?_toArray]; rfl
  case hq91 => exact fun _ _ _ h => h
  case hs91 | hf91 | hr91 => kernel_rfl
  case hw91 => rfl
  case hy91 => (intro w1 hSw; (try dsimp only at hSw); go_simp; try with_reducible rfl)
  (try simp only [Act.put, List.setIfInBounds_toArray, List.set_cons_zero, List.set_cons_succ])
  refine wpAnyH_ready (fuel := 35) (rs := [5]) (by kernel_rfl) (by simp) ?_
  refine AllReadyH.cons (o := ?oi92) ?hi92 (fun K hK => ?st92) AllReadyH.nil
  case hi92 => rw [List.getElem?_toArray]; rfl
  go_simp
  refine (AX.out _).mono ?_
  rintro ee wr5 ⟨rfl, hbn⟩
  replace hX := hid (hX.out.below hbn)
  replace hZ := hid (hZ.out.below hbn)
  replace hS := hid (hS.out.below hbn)
  replace hbel := hid (hbel.out.to hbn)
  clear hbn
  go_wp2_with fail
  refine hK.out _ _ ?hS92 (fun hHeld => ?re92)
  case hS92 => exact ⟨(RBox.box hX.out).c0, (RBox.box hX.out).c1, (RBox.box hX.out).c2, (RBox.box hX.out).c3, (RBox.box hZ.out).c0, (RBox.box hZ.out).c1, (RBox.box hZ.out).c2, (RBox.box hZ.out).c3⟩
  clear hK K
  (try simp only [Act.put, List.setIfInBounds_toArray, List.set_cons_zero, List.set_cons_succ])
  refine wpAnyH_ready (fuel := 34) (rs := [8]) (by kernel_rfl) (by simp) ?_
  refine AllReadyH.cons (o := ?oi93) ?hi93 (fun K hK => ?st93) AllReadyH.nil
  case hi93 => rw [List.getElem?_toArray]; rfl
  go_simp
  refine (AR.out _).mono ?_
  rintro ee wr8 ⟨rfl, hbn⟩
  replace hX := hid (hX.out.below hbn)
  replace hZ := hid (hZ.out.below hbn)
  replace hS := hid (hS.out.below hbn)
  replace hbel := hid (hbel.out.to hbn)
  clear hbn
  go_wp2_with fail
  refine hK.out _ _ ?hS93 (fun hHeld => ?re93)
  case hS93 => exact ⟨(RBox.box hX.out).c0, (RBox.box hX.out).c1, (RBox.box hX.out).c2, (RBox.box hX.out).c3, (RBox.box hZ.out).c0, (RBox.box hZ.out).c1, (RBox.box hZ.out).c2, (RBox.box hZ.out).c3⟩
  clear hK K
  (try simp only [Act.put, List.setIfInBounds_toArray, List.set_cons_zero, List.set_cons_succ])
  refine wpAnyH_take (i := 9) (oi := ?oi94) (v := .bool true) (fuel := 33) ?hi94 ?hs94 ?hf94 ?hr94 ?hq94 (Or.inl ⟨?hw94, ?hy94⟩) hHeld ?rest94
  case hi94 => rw [List.getElem?_toArray]; rfl
  case hq94 => exact fun _ _ _ h => h
  case hs94 | hf94 | hr94 => kernel_rfl
  case hw94 => rfl
  case hy94 => (intro w1 hSw; (try dsimp only at hSw); go_simp; try simp)
  (try simp only [Act.put, List.setIfInBounds_toArray, List.set_cons_zero, List.set_cons_succ])
  refine wpAnyH_take (i := 10) (oi := ?oi95) (v := ?v95) (fuel := 32) ?hi95 ?hs95 ?hf95 ?hr95 ?hq95 (Or.inl ⟨?hw95, ?hy95⟩) hHeld ?rest95
  case hi95 => rw [List.getElem?_toArray]; rfl
  case hq95 => exact fun _ _ _ h => h
  case hs95 | hf95 | hr95 => kernel_rfl
  case hw95 => rfl
  case hy95 => (intro w1 hSw; (try dsimp only at hSw); go_simp; try with_reducible rfl)
  (try simp only [Act.put, List.setIfInBounds_toArray, List.set_cons_zero, List.set_cons_succ])
  refine wpAnyH_take (i := 11) (oi := ?oi96) (v := ?v96) (fuel := 31) ?hi96 ?hs96 ?hf96 ?hr96 ?hq96 (Or.inl ⟨?hw96, ?hy96⟩) hHeld ?rest96
  case hi96 => rw [List.getElem?_toArray]; rfl
  case hq96 => exact fun _ _ _ h => h
  case hs96 | hf96 | hr96 => kernel_rfl
  case hw96 => rfl
  case hy96 => (intro w1 hSw; (try dsimp only at hSw); go_simp; try with_reducible rfl)
  (try simp only [Act.put, List.setIfInBounds_toArray, List.set_cons_zero, List.set_cons_succ])
  refine wpAnyH_take (i := 12) (oi := ?oi97) (v := ?v97) (fuel := 30) ?hi97 ?hs97 ?hf97 ?hr97 ?hq97 (Or.inl ⟨?hw97, ?hy97⟩) hHeld ?rest97
  case hi97 => rw [List.getElem?_toArray]; rfl
  case hq97 => exact fun _ _ _ h => h
  case hs97 | hf97 | hr97 => kernel_rfl
  case hw97 => rfl
  case hy97 => (intro w1 hSw; (try dsimp only at hSw); go_simp; try with_reducible rfl)
  (try simp only [Act.put, List.setIfInBounds_toArray, List.set_cons_zero, List.set_cons_succ])
  refine wpAnyH_take (i := 14) (oi := ?oi98) (v := ?v98) (fuel := 29) ?hi98 ?hs98 ?hf98 ?hr98 ?hq98 (Or.inl ⟨?hw98, ?hy98⟩) hHeld ?rest98
  case hi98 => rw [List.getElem?_toArray]; rfl
  case hq98 => exact fun _ _ _ h => h
  case hs98 | hf98 | hr98 => kernel_rfl
  case hw98 => rfl
  case hy98 => (intro w1 hSw; (try dsimp only at hSw); go_simp; try with_reducible rfl)
  (try simp only [Act.put, List.setIfInBounds_toArray, List.set_cons_zero, List.set_cons_succ])
  refine wpAnyH_ready (fuel := 28) (rs := [13]) (by kernel_rfl) (by simp) ?_
  refine AllReadyH.cons (o := ?oi99) ?hi99 (fun K hK => ?st99) AllReadyH.nil
  case hi99 => rw [List.getElem?_toArray]; rfl
  go_simp
  refine (A6.out _).mono ?_
  rintro ee wr13 ⟨rfl, hbn⟩
  replace hX := hid (hX.out.below hbn)
  replace hZ := hid (hZ.out.below hbn)
  replace hS := hid (hS.out.below hbn)
  replace hbel := hid (hbel.out.to hbn)
  clear hbn
  go_wp2_with fail
  refine hK.out _ _ ?hS99 (fun hHeld => ?re99)
  case hS99 => exact ⟨(RBox.box hX.out).c0, (RBox.box hX.out).c1, (RBox.box hX.out).c2, (RBox.box hX.out).c3, (RBox.box hZ.out).c0, (RBox.box hZ.out).c1, (RBox.box hZ.out).c2, (RBox.box hZ.out).c3⟩
  clear hK K
  (try simp only [Act.put, List.setIfInBounds_toArray, List.set_cons_zero, List.set_cons_succ])
  refine wpAnyH_ready (fuel := 27) (rs := [15]) (by kernel_rfl) (by simp) ?_
  refine AllReadyH.cons (o := ?oi100) ?hi100 (fun K hK => ?st100) AllReadyH.nil
  case hi100 => rw [List.getElem?_toArray]; rfl
  go_simp
  refine (A7.out _).mono ?_
  rintro ee wr15 ⟨rfl, hbn⟩
  replace hX := hid (hX.out.below hbn)
  replace hZ := hid (hZ.out.below hbn)
  replace hS := hid (hS.out.below hbn)
  replace hbel := hid (hbel.out.to hbn)
  clear hbn
  go_wp2_with fail
  refine hK.out _ _ ?hS100 (fun hHeld => ?re100)
  case hS100 => exact ⟨(RBox.box hX.out).c0, (RBox.box hX.out).c1, (RBox.box hX.out).c2, (RBox.box hX.out).c3, (RBox.box hZ.out).c0, (RBox.box hZ.out).c1, (RBox.box hZ.out).c2, (RBox.box hZ.out).c3⟩
  clear hK K
  (try simp only [Act.put, List.setIfInBounds_toArray, List.set_cons_zero, List.set_cons_succ])
  refine wpAnyH_take (i := 16) (oi := ?oi101) (v := ?v101) (fuel := 26) ?hi101 ?hs101 ?hf101 ?hr101 ?hq101 (Or.inl ⟨?hw101, ?hy101⟩) hHeld ?rest101
  case hi101 => rw [List.getElem?_toArray]; rfl
  case hq101 => exact fun _ _ _ h => h
  case hs101 | hf101 | hr101 => kernel_rfl
  case hw101 => rfl
  case hy101 => (intro w1 hSw; (try dsimp only at hSw); go_simp; try with_reducible rfl)
  (try simp only [Act.put, List.setIfInBounds_toArray, List.set_cons_zero, List.set_cons_succ])
  refine wpAnyH_take (i := 17) (oi := ?oi102) (v := ?v102) (fuel := 25) ?hi102 ?hs102 ?hf102 ?hr102 ?hq102 (Or.inl ⟨?hw102, ?hy102⟩) hHeld ?rest102
  case hi102 => rw [List.getElem?_toArray]; rfl
  case hq102 => exact fun _ _ _ h => h
  case hs102 | hf102 | hr102 => kernel_rfl
  case hw102 => rfl
  case hy102 => (intro w1 hSw; (try dsimp only at hSw); go_simp; try with_reducible rfl)
  (try simp only [Act.put, List.setIfInBounds_toArray, List.set_cons_zero, List.set_cons_succ])
  refine wpAnyH_take (i := 18) (oi := ?oi103) (v := ?v103) (fuel := 24) ?hi103 ?hs103 ?hf103 ?hr103 ?hq103 (Or.inl ⟨?hw103, ?hy103⟩) hHeld ?rest103
  case hi103 => rw [List.getElem?_toArray]; rfl
  case hq103 => exact fun _ _ _ h => h
  case hs103 | hf103 | hr103 => kernel_rfl
  case hw103 => rfl
  case hy103 => (intro w1 hSw; (try dsimp only at hSw); go_simp; try with_reducible rfl)
  (try simp only [Act.put, List.setIfInBounds_toArray, List.set_cons_zero, List.set_cons_succ])
  refine wpAnyH_take (i := 19) (oi := ?oi104) (v := ?v104) (fuel := 23) ?hi104 ?hs104 ?hf104 ?hr104 ?hq104 (Or.inl ⟨?hw104, ?hy104⟩) hHeld ?rest104
  case hi104 => rw [List.getElem?_toArray]; rfl
  case hq104 => exact fun _ _ _ h => h
  case hs104 | hf104 | hr104 => kernel_rfl
  case hw104 => rfl
  case hy104 => (intro w1 hSw; (try dsimp only at hSw); go_simp; try with_reducible rfl)
  (try simp only [Act.put, List.setIfInBounds_toArray, List.set_cons_zero, List.set_cons_succ])
  refine wpAnyH_take (i := 20) (oi := ?oi105) (v := ?v105) (fuel := 22) ?hi105 ?hs105 ?hf105 ?hr105 ?hq105 (Or.inl ⟨?hw105, ?hy105⟩) hHeld ?rest105
  case hi105 => rw [List.getElem?_toArray]; rfl
  case hq105 => exact fun _ _ _ h => h
  case hs105 | hf105 | hr105 => kernel_rfl
  case hw105 => rfl
  case hy105 => (intro w1 hSw; (try dsimp only at hSw); go_simp; try with_reducible rfl)
  (try simp only [Act.put, List.setIfInBounds_toArray, List.set_cons_zero, List.set_cons_succ])
  refine wpAnyH_take (i := 21) (oi := ?oi106) (v := ?v106) (fuel := 21) ?hi106 ?hs106 ?hf106 ?hr106 ?hq106 (Or.inl ⟨?hw106, ?hy106⟩) hHeld ?rest106
  case hi106 => rw [List.getElem?_toArray]; rfl
  case hq106 => exact fun _ _ _ h => h
  case hs106 | hf106 | hr106 => kernel_rfl
  case hw106 => rfl
  case hy106 => (intro w1 hSw; (try dsimp only at hSw); go_simp; try with_reducible rfl)
  (try simp only [Act.put, List.setIfInBounds_toArray, List.set_cons_zero, List.set_cons_succ])
  refine wpAnyH_take (i := 22) (oi := ?oi107) (v := ?v107) (fuel := 20) ?hi107 ?hs107 ?hf107 ?hr107 ?hq107 (Or.inl ⟨?hw107, ?hy107⟩) hHeld ?rest107
  case hi107 => rw [List.getElem?_toArray]; rfl
  case hq107 => exact fun _ _ _ h => h
  case hs107 | hf107 | hr107 => kernel_rfl
  case hw107 => rfl
  case hy107 => (intro w1 hSw; (try dsimp only at hSw); go_simp; try with_reducible rfl)
  (try simp only [Act.put, List.setIfInBounds_toArray, List.set_cons_zero, List.set_cons_succ])
  refine wpAnyH_take (i := 23) (oi := ?oi108) (v := ?v108) (fuel := 19) ?hi108 ?hs108 ?hf108 ?hr108 ?hq108 (Or.inl ⟨?hw108, ?hy108⟩) hHeld ?rest108
  case hi108 => rw [List.getElem?_toArray]; rfl
  case hq108 => exact fun _ _ _ h => h
  case hs108 | hf108 | hr108 => kernel_rfl
  case hw108 => rfl
  case hy108 => (intro w1 hSw; (try dsimp only at hSw); go_simp; try with_reducible rfl)
  (try simp only [Act.put, List.setIfInBounds_toArray, List.set_cons_zero, List.set_cons_succ])
  refine wpAnyH_take (i := 24) (oi := ?oi109) (v := ?v109) (fuel := 18) ?hi109 ?hs109 ?hf109 ?hr109 ?hq109 (Or.inl ⟨?hw109, ?hy109⟩) hHeld ?rest109
  case hi109 => rw [List.getElem?_toArray]; rfl
  case hq109 => exact fun _ _ _ h => h
  case hs109 | hf109 | hr109 => kernel_rfl
  case hw109 => rfl
  case hy109 => (intro w1 hSw; (try dsimp only at hSw); go_simp; try with_reducible rfl)
  (try simp only [Act.put, List.setIfInBounds_toArray, List.set_cons_zero, List.set_cons_succ])
  refine wpAnyH_take (i := 25) (oi := ?oi110) (v := ?v110) (fuel := 17) ?hi110 ?hs110 ?hf110 ?hr110 ?hq110 (Or.inl ⟨?hw110, ?hy110⟩) hHeld ?rest110
  case hi110 => rw [List.getElem?_toArray]; rfl
  case hq110 => exact fun _ _ _ h => h
  case hs110 | hf110 | hr110 => kernel_rfl
  case hw110 => rfl
  case hy110 => (intro w1 hSw; (try dsimp only at hSw); go_simp; try with_reducible rfl)
  (try simp only [Act.put, List.setIfInBounds_toArray, List.set_cons_zero, List.set_cons_succ])
  refine wpAnyH_take (i := 26) (oi := ?oi111) (v := ?v111) (fuel := 16) ?hi111 ?hs111 ?hf111 ?hr111 ?hq111 (Or.inl ⟨?hw111, ?hy111⟩) hHeld ?rest111
  case hi111 => rw [List.getElem?_toArray]; rfl
  case hq111 => exact fun _ _ _ h => h
  case hs111 | hf111 | hr111 => kernel_rfl
  case hw111 => rfl
  case hy111 => (intro w1 hSw; (try dsimp only at hSw); go_simp; try with_reducible rfl)
  (try simp only [Act.put, List.setIfInBounds_toArray, List.set_cons_zero, List.set_cons_succ])
  refine wpAnyH_take (i := 27) (oi := ?oi112) (v := ?v112) (fuel := 15) ?hi112 ?hs112 ?hf112 ?hr112 ?hq112 (Or.inl ⟨?hw112, ?hy112⟩) hHeld ?rest112
  case hi112 => rw [List.getElem?_toArray]; rfl
  case hq112 => exact fun _ _ _ h => h
  case hs112 | hf112 | hr112 => kernel_rfl
  case hw112 => rfl
  case hy112 => (intro w1 hSw; (try dsimp only at hSw); go_simp; try with_reducible rfl)
  (try simp only [Act.put, List.setIfInBounds_toArray, List.set_cons_zero, List.set_cons_succ])
  refine wpAnyH_take (i := 28) (oi := ?oi113) (v := ?v113) (fuel := 14) ?hi113 ?hs113 ?hf113 ?hr113 ?hq113 (Or.inl ⟨?hw113, ?hy113⟩) hHeld ?rest113
  case hi113 => rw [List.getElem?_toArray]; rfl
  case hq113 => exact fun _ _ _ h => h
  case hs113 | hf113 | hr113 => kernel_rfl
  case hw113 => rfl
  case hy113 => (intro w1 hSw; (try dsimp only at hSw); go_simp; try with_reducible rfl)
  (try simp only [Act.put, List.setIfInBounds_toArray, List.set_cons_zero, List.set_cons_succ])
  refine wpAnyH_take (i := 29) (oi := ?oi114) (v := ?v114) (fuel := 13) ?hi114 ?hs114 ?hf114 ?hr114 ?hq114 (Or.inl ⟨?hw114, ?hy114⟩) hHeld ?rest114
  case hi114 => rw [List.getElem?_toArray]; rfl
  case hq114 => exact fun _ _ _ h => h
  case hs114 | hf114 | hr114 => kernel_rfl
  case hw114 => rfl
  case hy114 => (intro w1 hSw; (try dsimp only at hSw); go_simp; try with_reducible rfl)
  (try simp only [Act.put, List.setIfInBounds_toArray, List.set_cons_zero, List.set_cons_succ])
  refine wpAnyH_take (i := 30) (oi := ?oi115) (v := ?v115) (fuel := 12) ?hi115 ?hs115 ?hf115 ?hr115 ?hq115 (Or.inl ⟨?hw115, ?hy115⟩) hHeld ?rest115
  case hi115 => rw [List.getElem?_toArray]; rfl
  case hq115 => exact fun _ _ _ h => h
  case hs115 | hf115 | hr115 => kernel_rfl
  case hw115 => rfl
  case hy115 => (intro w1 hSw; (try dsimp only at hSw); go_simp; try with_reducible rfl)
  (try simp only [Act.put, List.setIfInBounds_toArray, List.set_cons_zero, List.set_cons_succ])
  refine wpAnyH_take (i := 31) (oi := ?oi116) (v := ?v116) (fuel := 11) ?hi116 ?hs116 ?hf116 ?hr116 ?hq116 (Or.inl ⟨?hw116, ?hy116⟩) hHeld ?rest116
  case hi116 => rw [List.getElem?_toArray]; rfl
  case hq116 => exact fun _ _ _ h => h
  case hs116 | hf116 | hr116 => kernel_rfl
  case hw116 => rfl
  case hy116 => (intro w1 hSw; (try dsimp only at hSw); go_simp; try with_reducible rfl)
  (try simp only [Act.put, List.setIfInBounds_toArray, List.set_cons_zero, List.set_cons_succ])
  refine wpAnyH_take (i := 32) (oi := ?oi117) (v := ?v117) (fuel := 10) ?hi117 ?hs117 ?hf117 ?hr117 ?hq117 (Or.inl ⟨?hw117, ?hy117⟩) hHeld ?rest117
  case hi117 => rw [List.getElem?_toArray]; rfl
  case hq117 => exact fun _ _ _ h => h
  case hs117 | hf117 | hr117 => kernel_rfl
  case hw117 => rfl
  case hy117 => (intro w1 hSw; (try dsimp only at hSw); go_simp; try with_reducible rfl)
  (try simp only [Act.put, List.setIfInBounds_toArray, List.set_cons_zero, List.set_cons_succ])
  refine wpAnyH_take (i := 33) (oi := ?oi118) (v := ?v118) (fuel := 9) ?hi118 ?hs118 ?hf118 ?hr118 ?hq118 (Or.inl ⟨?hw118, ?hy118⟩) hHeld ?rest118
  case hi118 => rw [List.getElem?_toArray]; rfl
  case hq118 => exact fun _ _ _ h => h
  case hs118 | hf118 | hr118 => kernel_rfl
  case hw118 => rfl
  case hy118 => (intro w1 hSw; (try dsimp only at hSw); go_simp; try with_reducible rfl)
  (try simp only [Act.put, List.setIfInBounds_toArray, List.set_cons_zero, List.set_cons_succ])
  refine wpAnyH_take (i := 34) (oi := ?oi119) (v := ?v119) (fuel := 8) ?hi119 ?hs119 ?hf119 ?hr119 ?hq119 (Or.inl ⟨?hw119, ?hy119⟩) hHeld ?rest119
  case hi119 => rw [List.getElem?_toArray]; rfl
  case hq119 => exact fun _ _ _ h => h
  case hs119 | hf119 | hr119 => kernel_rfl
  case hw119 => rfl
  case hy119 => (intro w1 hSw; (try dsimp only at hSw); go_simp; try with_reducible rfl)
  (try simp only [Act.put, List.setIfInBounds_toArray, List.set_cons_zero, List.set_cons_succ])
  refine wpAnyH_take (i := 35) (oi := ?oi120) (v := ?v120) (fuel := 7) ?hi120 ?hs120 ?hf120 ?hr120 ?hq120 (Or.inl ⟨?hw120, ?hy120⟩) hHeld ?rest120
  case hi120 => rw [List.getElem?_toArray]; rfl
  case hq120 => exact fun _ _ _ h => h
  case hs120 | hf120 | hr120 => kernel_rfl
  case hw120 => rfl
  case hy120 => (intro w1 hSw; (try dsimp only at hSw); go_simp; try with_reducible rfl)
  (try simp only [Act.put, List.setIfInBounds_toArray, List.set_cons_zero, List.set_cons_succ])
  refine wpAnyH_take (i := 36) (oi := ?oi121) (v := ?v121) (fuel := 6) ?hi121 ?hs121 ?hf121 ?hr121 ?hq121 (Or.inl ⟨?hw121, ?hy121⟩) hHeld ?rest121
  case hi121 => rw [List.getElem?_toArray]; rfl
  case hq121 => exact fun _ _ _ h => h
  case hs121 | hf121 | hr121 => kernel_rfl
  case hw121 => rfl
  case hy121 => (intro w1 hSw; (try dsimp only at hSw); go_simp; try with_reducible rfl)
  (try simp only [Act.put, List.setIfInBounds_toArray, List.set_cons_zero, List.set_cons_succ])
  refine wpAnyH_take (i := 37) (oi := ?oi122) (v := ?v122) (fuel := 5) ?hi122 ?hs122 ?hf122 ?hr122 ?hq122 (Or.inl ⟨?hw122, ?hy122⟩) hHeld ?rest122
  case hi122 => rw [List.getElem?_toArray]; rfl
  case hq122 => exact fun _ _ _ h => h
  case hs122 | hf122 | hr122 => kernel_rfl
  case hw122 => rfl
  case hy122 => (intro w1 hSw; (try dsimp only at hSw); go_simp; try with_reducible rfl)
  (try simp only [Act.put, List.setIfInBounds_toArray, List.set_cons_zero, List.set_cons_succ])
  refine wpAnyH_take (i := 38) (oi := ?oi123) (v := ?v123) (fuel := 4) ?hi123 ?hs123 ?hf123 ?hr123 ?hq123 (Or.inl ⟨?hw123, ?hy123⟩) hHeld ?rest123
  case hi123 => rw [List.getElem?_toArray]; rfl
  case hq123 => exact fun _ _ _ h => h
  case hs123 | hf123 | hr123 => kernel_rfl
  case hw123 => rfl
  case hy123 => (intro w1 hSw; (try dsimp only at hSw); go_simp; try with_reducible rfl)
  (try simp only [Act.put, List.setIfInBounds_toArray, List.set_cons_zero, List.set_cons_succ])
  refine wpAnyH_take (i := 39) (oi := ?oi124) (v := ?v124) (fuel := 3) ?hi124 ?hs124 ?hf124 ?hr124 ?hq124 (Or.inl ⟨?hw124, ?hy124⟩) hHeld ?rest124
  case hi124 => rw [List.getElem?_toArray]; rfl
  case hq124 => exact fun _ _ _ h => h
  case hs124 | hf124 | hr124 => kernel_rfl
  case hw124 => rfl
  case hy124 => (intro w1 hSw; (try dsimp only at hSw); go_simp; try with_reducible rfl)
  (try simp only [Act.put, List.setIfInBounds_toArray, List.set_cons_zero, List.set_cons_succ])
  refine wpAnyH_take (i := 40) (oi := ?oi125) (v := ?v125) (fuel := 2) ?hi125 ?hs125 ?hf125 ?hr125 ?hq125 (Or.inl ⟨?hw125, ?hy125⟩) hHeld ?rest125
  case hi125 => rw [List.getElem?_toArray]; rfl
  case hq125 => exact fun _ _ _ h => h
  case hs125 | hf125 | hr125 => kernel_rfl
  case hw125 => rfl
  case hy125 => (intro w1 hSw; (try dsimp only at hSw); go_simp; try with_reducible rfl)
  (try simp only [Act.put, List.setIfInBounds_toArray, List.set_cons_zero, List.set_cons_succ])
  refine wpAnyH_take (i := 41) (oi := ?oi126) (v := ?v126) (fuel := 1) ?hi126 ?hs126 ?hf126 ?hr126 ?hq126 (Or.inl ⟨?hw126, ?hy126⟩) hHeld ?rest126
  case hi126 => rw [List.getElem?_toArray]; rfl
  case hq126 => exact fun _ _ _ h => h
  case hs126 | hf126 | hr126 => kernel_rfl
  case hw126 => rfl
  case hy126 => (intro w1 hSw; (try dsimp only at hSw); go_simp; try with_reducible rfl)
  (try simp only [Act.put, List.setIfInBounds_toArray, List.set_cons_zero, List.set_cons_succ])
  refine wpAnyH_take (i := 42) (oi := ?oi127) (v := ?v127) (fuel := 0) ?hi127 ?hs127 ?hf127 ?hr127 ?hq127 (Or.inl ⟨?hw127, ?hy127⟩) hHeld ?rest127
  case hi127 => rw [List.getElem?_toArray]; rfl
  case hq127 => exact fun _ _ _ h => h
  case hs127 | hf127 | hr127 => kernel_rfl
  case hw127 => rfl
  case hy127 => (intro w1 hSw; (try dsimp only at hSw); go_simp; try with_reducible rfl)
  (try simp only [Act.put, List.setIfInBounds_toArray, List.set_cons_zero, List.set_cons_succ])
  refine wpAnyH_done (by kernel_rfl) ?_ _
  clear hHeld
  generalize wr15 = w8 at *
  have bX8 := hX
  have bZ8 := hZ
  have bS8 := hS
  have bel8 := hbel
  clear hbel hX hZ hS
  go_wp2_with fail
  go_ret
  exact ⟨rfl, bel8.out⟩
end Go.Proofs.Yteiglpijjffneaa
