/- Marks written into lists, and found again. -/
import Derived.Test.YtgdefengkacnfaaTT
namespace Go.Proofs.Ytgdefengkacnfaa
open Go.RowKit
set_option linter.unusedSimpArgs false
set_option linter.unusedVariables false

def marksI (k0 n : Nat) : List Int := (List.range n).map fun i => ((k0 + i : Nat) : Int)
def marksS (k0 n : Nat) : List ByteArray := (List.range n).map fun i => mtS (k0 + i)
theorem marksI_length (k0 n : Nat) : (marksI k0 n).length = n := by simp [marksI]
theorem marksS_length (k0 n : Nat) : (marksS k0 n).length = n := by simp [marksS]

set_option maxRecDepth 100000 in
set_option maxHeartbeats 2000000 in
theorem f42 (a : Option Addr) (n cap k0 : Nat) (w : World) (hW : Wr w a n) (hn : n ≤ 1048576) (h1 : 1 ≤ k0) (h2 : k0 ≤ 2000000) :
    Calls Try.prog 15 #[.slice a n cap, .int .i64 k0] w fun e w' => e = .returned (.int .i64 ((k0 + n : Nat) : Int)) ∧ ArgS w' a (marksS k0 n) ∧ Wr w' a n ∧ Exc (isBlk a) w w' := by
  go_enter Try.func15, Try.ntmps15
  go_wp2_with fail
  go_loopw [1, 5] (fun c i wr => ∃ j : Nat, j ≤ n ∧ i = .int .i64 j ∧ c = .int .i64 ((k0 + j : Nat) : Int) ∧ Wr wr a n ∧ Exc (isBlk a) w wr ∧ ∀ g, a = some ⟨g, 0, none⟩ → ∀ i, i < j → wr.cell? ⟨g, i, none⟩ = some (.string (mtS (k0 + i)))) (fun _ i _ => n - (intOf i).toNat)
  case atStart => exact ⟨0, Nat.zero_le _, rfl, rfl, hW, Exc.refl _ _, fun _ _ _ h => absurd h (by omega)⟩
  case round =>
    clear hW
    obtain ⟨j, hj, rfl, rfl, hW, he, hd⟩ := hrel
    have HD : Hid (∀ g, a = some ⟨g, 0, none⟩ → ∀ i, i < j → wr.cell? ⟨g, i, none⟩ = some (.string (mtS (k0 + i)))) := hd
    have HW : Hid (Wr wr a n) := hW
    have HE : Hid (Exc (isBlk a) w wr) := he
    clear hd he
    by_cases hlt : j < n
    · have hlt' : (j : Int) < (n : Int) := by omega
      rcases hW with rfl | ⟨g, rfl, hgl, hroom⟩
      · omega
      obtain ⟨⟨u0, g0⟩, z0⟩ := hroom j hlt
      clear hroom
      have he := HE.out
      go_wp2_with fail
      refine (f59 (k0 + j) wr (by omega) (by omega)).mono ?_
      rintro e wm ⟨rfl, hbm⟩
      have g0' : wm.cell? ⟨g, j, none⟩ = some u0 := (hbm.cell hgl).trans g0
      have z0' : wm.frozen? ⟨g, j, none⟩ = false := (hbm.frozen hgl).trans z0
      have hgm : g < wm.heap.size := by have := hbm.size; omega
      go_wp2_with fail
      refine ⟨⟨j + 1, by omega, by go_num, by go_num, ?_, (he.trans (Exc.of hbm)).setCell ⟨0, rfl⟩ _, ?_⟩, by simp [intOf]; omega⟩
      · rcases HW.out with h | ⟨g', e', hg', hr'⟩
        · omega
        · simp only [Option.some.injEq, Addr.mk.injEq, and_true] at e'
          subst e'
          exact .inr ⟨g, rfl, by simp; omega, Room.set (Room.below hr' hbm hgl) _ _⟩
      · intro g' e' i hi
        simp only [Option.some.injEq, Addr.mk.injEq, and_true] at e'
        subst e'
        by_cases hij : i < j
        · rw [World.cell?_setCell_other]
          · rw [hbm.cell hgl]; exact HD.out g rfl i hij
          · intro e; simp at e; try omega
        · obtain rfl : i = j := by omega
          exact World.cell?_setCell_same _ _ _ g0'
    · obtain rfl : j = n := by omega
      go_wp2_with fail
      go_ret
      refine ⟨rfl, ?_, HW.out, HE.out⟩
      rcases HW.out with rfl | ⟨g, rfl, hgl, hroom⟩
      · exact .inl rfl
      · exact .inr ⟨g, 0, rfl, hgl, fun i hi => by simp [marksS] at hi ⊢; exact HD.out g rfl i hi⟩

set_option maxRecDepth 100000 in
set_option maxHeartbeats 2000000 in
theorem f44 (a : Option Addr) (n cap k0 : Nat) (w : World) (hA : ArgS w a (marksS k0 n)) (hn : n ≤ 1048576) (h1 : 1 ≤ k0) (h2 : k0 ≤ 2000000) :
    Calls Try.prog 16 #[.slice a n cap, .int .i64 k0] w fun e w' => e = .returned (.int .i64 ((k0 + n : Nat) : Int)) ∧ Below w.heap.size w w' := by
  go_enter Try.func16, Try.ntmps16
  go_wp2_with fail
  go_loopw [1, 5] (fun c i wr => ∃ j : Nat, j ≤ n ∧ i = .int .i64 j ∧ c = .int .i64 ((k0 + j : Nat) : Int) ∧ Below w.heap.size w wr) (fun _ i _ => n - (intOf i).toNat)
  case atStart => exact ⟨0, Nat.zero_le _, rfl, rfl, Below.refl _ _⟩
  case round =>
    obtain ⟨j, hj, rfl, rfl, hbw⟩ := hrel
    by_cases hlt : j < n
    · have hlt' : (j : Int) < (n : Int) := by omega
      obtain ⟨b, p, rfl, hb, hc⟩ := (hA.below hbw (Nat.le_refl _)).at j (by rw [marksS_length]; exact hlt)
      have hv : (marksS k0 n)[j]'(by rw [marksS_length]; exact hlt) = mtS (k0 + j) := by simp [marksS]
      rw [hv] at hc
      clear hv
      go_wp2_with fail
      refine wp_region_held_drew (S := (fun w' => w'.cell? ⟨b, p + j, none⟩ = some (.string (mtS (k0 + j))))) (by kernel_rfl) (by simp [*]) (fun hHeld => ?_)
      refine wpAnyH_take (i := 0) (oi := ?oi1) (v := ?v1) (fuel := 6) ?hi1 ?hs1 ?hf1 ?hr1 ?hq1 (Or.inl ⟨?hw1, ?hy1⟩) hHeld ?rest1
      case hi1 => rw [List.getElem?_toArray]; rfl
      case hq1 => exact fun _ _ _ h => h
      case hs1 => kernel_rfl
      case hf1 => kernel_rfl
      case hr1 => kernel_rfl
      case hw1 => rfl
      case hy1 => (intro w1 hSw; (try dsimp only at hSw); go_simp; try with_reducible rfl)
      (try simp only [Act.put, List.setIfInBounds_toArray, List.set_cons_zero, List.set_cons_succ])
      refine wpAnyH_take (i := 1) (oi := ?oi2) (v := ?v2) (fuel := 5) ?hi2 ?hs2 ?hf2 ?hr2 ?hq2 (Or.inl ⟨?hw2, ?hy2⟩) hHeld ?rest2
      case hi2 => rw [List.getElem?_toArray]; rfl
      case hq2 => exact fun _ _ _ h => h
      case hs2 => kernel_rfl
      case hf2 => kernel_rfl
      case hr2 => kernel_rfl
      case hw2 => rfl
      case hy2 => (intro w1 hSw; (try dsimp only at hSw); go_simp; try with_reducible rfl)
      (try simp only [Act.put, List.setIfInBounds_toArray, List.set_cons_zero, List.set_cons_succ])
      refine wpAnyH_take (i := 2) (oi := ?oi3) (v := ?v3) (fuel := 4) ?hi3 ?hs3 ?hf3 ?hr3 ?hq3 (Or.inl ⟨?hw3, ?hy3⟩) hHeld ?rest3
      case hi3 => rw [List.getElem?_toArray]; rfl
      case hq3 => exact fun _ _ _ h => h
      case hs3 => kernel_rfl
      case hf3 => kernel_rfl
      case hr3 => kernel_rfl
      case hw3 => rfl
      case hy3 => (intro w1 hSw; (try dsimp only at hSw); go_simp; try with_reducible rfl)
      (try simp only [Act.put, List.setIfInBounds_toArray, List.set_cons_zero, List.set_cons_succ])
      refine wpAnyH_take (i := 3) (oi := ?oi4) (v := ?v4) (fuel := 3) ?hi4 ?hs4 ?hf4 ?hr4 ?hq4 (Or.inl ⟨?hw4, ?hy4⟩) hHeld ?rest4
      case hi4 => rw [List.getElem?_toArray]; rfl
      case hq4 => exact fun _ _ _ h => h
      case hs4 => kernel_rfl
      case hf4 => kernel_rfl
      case hr4 => kernel_rfl
      case hw4 => rfl
      case hy4 => (intro w1 hSw; (try dsimp only at hSw); go_simp; try with_reducible rfl)
      (try simp only [Act.put, List.setIfInBounds_toArray, List.set_cons_zero, List.set_cons_succ])
      refine wpAnyH_take (i := 4) (oi := ?oi5) (v := ?v5) (fuel := 2) ?hi5 ?hs5 ?hf5 ?hr5 ?hq5 (Or.inl ⟨?hw5, ?hy5⟩) hHeld ?rest5
      case hi5 => rw [List.getElem?_toArray]; rfl
      case hq5 => exact fun _ _ _ h => h
      case hs5 => kernel_rfl
      case hf5 => kernel_rfl
      case hr5 => kernel_rfl
      case hw5 => rfl
      case hy5 => (intro w1 hSw; (try dsimp only at hSw); go_simp; try with_reducible rfl)
      (try simp only [Act.put, List.setIfInBounds_toArray, List.set_cons_zero, List.set_cons_succ])
      refine wpAnyH_ready (fuel := 1) (rs := [5]) (by kernel_rfl) (by simp) ?_
      refine AllReadyH.cons (o := ?oiC) ?hiC (fun K hK => ?stC) AllReadyH.nil
      case hiC => rw [List.getElem?_toArray]; rfl
      go_simp
      refine (f59 (k0 + j) _ (by omega) (by omega)).mono ?_
      rintro e w3 ⟨rfl, hb3⟩
      have hb3' : Below wr.heap.size wr w3 := (Below.refl _ _).drew.trans hb3
      have hc3 : ∀ b o, b < wr.heap.size → w3.cell? ⟨b, o, none⟩ = wr.cell? ⟨b, o, none⟩ := fun b o h => hb3'.cell (p := ⟨b, o, none⟩) h
      go_wp2_with fail
      refine hK.out _ _ ?hSC (fun hHeld => ?reC)
      case hSC => simp [*]
      clear hK K
      (try simp only [Act.put, List.setIfInBounds_toArray, List.set_cons_zero, List.set_cons_succ])
      refine wpAnyH_take (i := 6) (oi := ?oi6) (v := ?v6) (fuel := 0) ?hi6 ?hs6 ?hf6 ?hr6 ?hq6 (Or.inl ⟨?hw6, ?hy6⟩) hHeld ?rest6
      case hi6 => rw [List.getElem?_toArray]; rfl
      case hq6 => exact fun _ _ _ h => h
      case hs6 => kernel_rfl
      case hf6 => kernel_rfl
      case hr6 => kernel_rfl
      case hw6 => rfl
      case hy6 => (intro w1 hSw; (try dsimp only at hSw); go_simp; try with_reducible rfl)
      (try simp only [Act.put, List.setIfInBounds_toArray, List.set_cons_zero, List.set_cons_succ])
      refine wpAnyH_done (by kernel_rfl) ?_ _
      clear hHeld
      go_wp2_with fail
      go_roundw
      case rel => exact ⟨j + 1, by omega, by go_num, by go_num, hbw.trans (hb3'.mono hbw.size)⟩
      case measure => simp [intOf]; omega
    · obtain rfl : j = n := by omega
      go_wp2_with fail
      go_ret
      exact ⟨rfl, hbw⟩

end Go.Proofs.Ytgdefengkacnfaa
