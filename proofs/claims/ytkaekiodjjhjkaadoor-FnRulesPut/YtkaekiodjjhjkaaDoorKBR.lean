/- The draws: one of some strings; a string that is bent. -/
import Derived.Test.YtkaekiodjjhjkaaDoorDR1
namespace Go.Proofs.YtkaekiodjjhjkaaDoor
open Go.RowKit
set_option linter.unusedVariables false
set_option linter.unusedSimpArgs false
section
variable {w0 w w' w'' : World} {B : Nat} {a : Option Addr} {len cap p q : Nat}
theorem K3.cellO {L j : Nat} (k : K3 w0 w w' B a len cap q) (hL : L < w.heap.size) (hne : L ≠ B) : w'.cell? ⟨L, j, none⟩ = w.cell? ⟨L, j, none⟩ := World.cell?_of_block (k.kp.2 L hL hne)
end
def SL (w : World) (L : Nat) (l : List ByteArray) : Prop := L < w.heap.size ∧ ∀ i, i < l.length → w.cell? ⟨L, i, none⟩ = some (.string (l.getD i ⟨#[]⟩))
theorem SL.new (w : World) (l : List ByteArray) (t : TypeId) : SL (w.alloc (.cells (l.map Value.string).toArray t (0, 0))) w.heap.size l := by
  refine ⟨by simp, fun i hi => ?_⟩
  have hb : (w.alloc (.cells (l.map Value.string).toArray t (0, 0))).heap[w.heap.size]? = some (.cells (l.map Value.string).toArray t (0, 0)) := by
    show (w.heap.push _)[w.heap.size]? = _
    simp
  simp only [World.cell?, hb]
  simp [hi]
set_option maxRecDepth 100000 in
set_option maxHeartbeats 4000000 in
theorem of_k {w0 w : World} {B : Nat} {a : Option Addr} {len cap p : Nat} (h : RS w0 w B a len cap p) (hp : p ≤ 1000000) (l : List ByteArray) (m0 : 0 < l.length) (m1 : l.length ≤ 1000) :
    Calls Tryd.prog 44 #[.pointer (some ⟨B, 0, none⟩), .slice (some ⟨w.heap.size, 0, none⟩) l.length l.length] (w.alloc (.cells (l.map Value.string).toArray 9 (0, 0)))
      fun e w' => ∃ v : ByteArray, v ∈ l ∧ e = .returned (.string v) ∧ K3 w0 w w' B a len cap (p + 1) := by
  have HS := hid (SL.new w l 9)
  have HD := hid ((K3.start h).alloc (.cells (l.map Value.string).toArray 9 (0, 0)))
  have lB := h.lt
  clear h
  generalize w.alloc (.cells (l.map Value.string).toArray 9 (0, 0)) = w1 at *
  have m0' : (1 : Int) ≤ (l.length : Int) := by omega
  have m1' : (l.length : Int) ≤ 1000 := by omega
  go_enter Tryd.func44, Tryd.ntmps44
  go_wp2_with fail
  refine (pick_k HD.out.rs (by omega) _ (by omega) (by omega)).mono ?_
  rintro e w2 ⟨m, rfl, hm, kk⟩
  have lS := HS.out.1
  have lS2 : w.heap.size < w2.heap.size := Nat.lt_of_lt_of_le lS kk.kp.1
  have hc := (K3.cellO (j := m) kk lS (by omega)).trans (HS.out.2 m (by omega))
  replace HD := hid (HD.out.draw kk)
  clear kk HS
  have hm0 : (0 : Int) ≤ (m : Int) := by omega
  have hmem : l.getD m ⟨#[]⟩ ∈ l := by rw [List.getD, List.getElem?_eq_getElem (by omega)]; exact List.getElem_mem _
  generalize l.getD m ⟨#[]⟩ = y at *
  go_wp2_with fail
  go_ret
  exact ⟨_, hmem, rfl, HD.out⟩
/-- Some string, not long. -/
def AnT (m : Nat) (e : Ending) : Prop := ∃ t : ByteArray, e = .returned (.string t) ∧ t.size ≤ m
set_option maxRecDepth 100000 in
set_option maxHeartbeats 4000000 in
theorem bent_k {w0 w : World} {B : Nat} {a : Option Addr} {len cap p : Nat} (h : RS w0 w B a len cap p) (hp : p ≤ 900000) (s : ByteArray) (hs : s.size ≤ 1000) :
    Calls Tryd.prog 24 #[.pointer (some ⟨B, 0, none⟩), .string s] w fun e w' => AnT 2100 e ∧ ∃ q, q ≤ p + 3 ∧ K3 w0 w w' B a len cap q := by
  have HD := hid (K3.start h)
  clear h
  have hs' : (s.size : Int) ≤ 1000 := by omega
  have hs0 : (0 : Int) ≤ (s.size : Int) := by omega
  go_enter Tryd.func24, Tryd.ntmps24
  go_wp2_with fail
  refine (pick_k HD.out.rs (by omega) _ (by omega) (by omega)).mono ?_
  rintro e w1 ⟨k, rfl, hk, kk⟩
  replace HD := hid (HD.out.draw kk)
  clear kk
  have hk0 : (0 : Int) ≤ (k : Int) := by omega
  have hk1 : k ≤ s.size := by omega
  go_wp2_with fail
  refine (pick_k HD.out.rs (by omega) 5 (by omega) (by omega)).mono ?_
  rintro e w2 ⟨m, rfl, hm, kk⟩
  replace HD := hid (HD.out.draw kk)
  clear kk
  have hm0 : (0 : Int) ≤ (m : Int) := by omega
  generalize (m : Int) = y at *
  have hyc : y = 0 ∨ y = 1 ∨ y = 2 ∨ 2 < y := by omega
  rcases hyc with rfl | rfl | rfl | hy
  · by_cases hlt : k < s.size
    · have hlt' : (k : Int) < (s.size : Int) := by omega
      have hki : (k : Int) + 1 ≤ (s.size : Int) := by omega
      have hwk : IntKind.i64.wrap ((k : Int) + 1) = (k : Int) + 1 := by rw [IntKind.wrap_i64]; omega
      have hk1p : (0 : Int) ≤ (k : Int) + 1 := by omega
      have htk : ((k : Int) + 1).toNat = k + 1 := by omega
      go_wp2_with fail
      refine wp_region_held_drew (S := (fun _ => True)) (by kernel_rfl) (trivial) (fun hHeld => ?_)
      have hD := hid HD.out.drew
      clear HD
      generalize w2.drew = W1 at *
      refine wpAnyH_take (i := 0) (oi := ?oi1) (v := ?v1) (fuel := 12) ?hi1 ?hs1 ?hf1 ?hr1 ?hq1 (Or.inl ⟨?hw1, ?hy1⟩) hHeld ?rest1
      case hi1 => rw [List.getElem?_toArray]; rfl
      case hq1 => exact fun _ _ _ h => h
      case hs1 | hf1 | hr1 => kernel_rfl
      case hw1 => rfl
      case hy1 => (intro w1 hSw; (try dsimp only at hSw); go_simp; try with_reducible rfl)
      (try simp only [Act.put, List.setIfInBounds_toArray, List.set_cons_zero, List.set_cons_succ])
      refine wpAnyH_take (i := 1) (oi := ?oi2) (v := ?v2) (fuel := 11) ?hi2 ?hs2 ?hf2 ?hr2 ?hq2 (Or.inl ⟨?hw2, ?hy2⟩) hHeld ?rest2
      case hi2 => rw [List.getElem?_toArray]; rfl
      case hq2 => exact fun _ _ _ h => h
      case hs2 | hf2 | hr2 => kernel_rfl
      case hw2 => rfl
      case hy2 => (intro w1 hSw; (try dsimp only at hSw); go_simp; try with_reducible rfl)
      (try simp only [Act.put, List.setIfInBounds_toArray, List.set_cons_zero, List.set_cons_succ])
      refine wpAnyH_take (i := 2) (oi := ?oi3) (v := ?v3) (fuel := 10) ?hi3 ?hs3 ?hf3 ?hr3 ?hq3 (Or.inl ⟨?hw3, ?hy3⟩) hHeld ?rest3
      case hi3 => rw [List.getElem?_toArray]; rfl
      case hq3 => exact fun _ _ _ h => h
      case hs3 | hf3 | hr3 => kernel_rfl
      case hw3 => rfl
      case hy3 => (intro w1 hSw; (try dsimp only at hSw); go_simp; try with_reducible rfl)
      (try simp only [Act.put, List.setIfInBounds_toArray, List.set_cons_zero, List.set_cons_succ])
      refine wpAnyH_take (i := 3) (oi := ?oi4) (v := ?v4) (fuel := 9) ?hi4 ?hs4 ?hf4 ?hr4 ?hq4 (Or.inl ⟨?hw4, ?hy4⟩) hHeld ?rest4
      case hi4 => rw [List.getElem?_toArray]; rfl
      case hq4 => exact fun _ _ _ h => h
      case hs4 | hf4 | hr4 => kernel_rfl
      case hw4 => rfl
      case hy4 => (intro w1 hSw; (try dsimp only at hSw); go_simp; try with_reducible rfl)
      (try simp only [Act.put, List.setIfInBounds_toArray, List.set_cons_zero, List.set_cons_succ])
      refine wpAnyH_take (i := 7) (oi := ?oi5) (v := ?v5) (fuel := 8) ?hi5 ?hs5 ?hf5 ?hr5 ?hq5 (Or.inl ⟨?hw5, ?hy5⟩) hHeld ?rest5
      case hi5 => rw [List.getElem?_toArray]; rfl
      case hq5 => exact fun _ _ _ h => h
      case hs5 | hf5 | hr5 => kernel_rfl
      case hw5 => rfl
      case hy5 => (intro w1 hSw; (try dsimp only at hSw); go_simp; try with_reducible rfl)
      (try simp only [Act.put, List.setIfInBounds_toArray, List.set_cons_zero, List.set_cons_succ])
      refine wpAnyH_take (i := 8) (oi := ?oi6) (v := ?v6) (fuel := 7) ?hi6 ?hs6 ?hf6 ?hr6 ?hq6 (Or.inl ⟨?hw6, ?hy6⟩) hHeld ?rest6
      case hi6 => rw [List.getElem?_toArray]; rfl
      case hq6 => exact fun _ _ _ h => h
      case hs6 | hf6 | hr6 => kernel_rfl
      case hw6 => rfl
      case hy6 => (intro w1 hSw; (try dsimp only at hSw); go_simp; try with_reducible rfl)
      (try simp only [Act.put, List.setIfInBounds_toArray, List.set_cons_zero, List.set_cons_succ])
      refine wpAnyH_take (i := 9) (oi := ?oi7) (v := .int .i64 ((k : Int) + 1)) (fuel := 6) ?hi7 ?hs7 ?hf7 ?hr7 ?hq7 (Or.inl ⟨?hw7, ?hy7⟩) hHeld ?rest7
      case hi7 => rw [List.getElem?_toArray]; rfl
      case hq7 => exact fun _ _ _ h => h
      case hs7 | hf7 | hr7 => kernel_rfl
      case hw7 => rfl
      case hy7 => (intro w1 hSw; (try dsimp only at hSw); go_simp; try simp [hwk])
      (try simp only [Act.put, List.setIfInBounds_toArray, List.set_cons_zero, List.set_cons_succ])
      refine wpAnyH_take (i := 10) (oi := ?oi8) (v := .string (s.extract (k + 1) s.size)) (fuel := 5) ?hi8 ?hs8 ?hf8 ?hr8 ?hq8 (Or.inl ⟨?hw8, ?hy8⟩) hHeld ?rest8
      case hi8 => rw [List.getElem?_toArray]; rfl
      case hq8 => exact fun _ _ _ h => h
      case hs8 | hf8 | hr8 => kernel_rfl
      case hw8 => rfl
      case hy8 => (intro w1 hSw; (try dsimp only at hSw); go_simp; try rw [if_pos hk1p])
      (try simp only [Act.put, List.setIfInBounds_toArray, List.set_cons_zero, List.set_cons_succ])
      refine wpAnyH_ready (fuel := 4) (rs := [4]) (by kernel_rfl) (by simp) ?_
      refine AllReadyH.cons (o := ?oi9) ?hi9 (fun K hK => ?st9) AllReadyH.nil
      case hi9 => rw [List.getElem?_toArray]; rfl
      go_simp
      refine hK.out _ _ ?hS9 (fun hHeld => ?re9)
      case hS9 => trivial
      clear hK K
      (try simp only [Act.put, List.setIfInBounds_toArray, List.set_cons_zero, List.set_cons_succ])
      refine wpAnyH_ready (fuel := 3) (rs := [5]) (by kernel_rfl) (by simp) ?_
      refine AllReadyH.cons (o := ?oi10) ?hi10 (fun K hK => ?st10) AllReadyH.nil
      case hi10 => rw [List.getElem?_toArray]; rfl
      go_simp
      refine (of_k hD.out.rs (by omega) [⟨#[0]⟩, ⟨#[49]⟩, ⟨#[255]⟩, ⟨#[32]⟩, ⟨#[114]⟩, ⟨#[16]⟩] (by decide) (by decide)).mono ?_
      rintro ee wr5 ⟨v, hv, rfl, kk⟩
      replace hD := hid (hD.out.draw kk)
      have hvs : v.size = 1 := by
        simp only [List.mem_cons, List.not_mem_nil, or_false] at hv
        rcases hv with rfl | rfl | rfl | rfl | rfl | rfl <;> rfl
      clear kk hv
      go_wp2_with fail
      refine hK.out _ _ ?hS10 (fun hHeld => ?re10)
      case hS10 => trivial
      clear hK K
      (try simp only [Act.put, List.setIfInBounds_toArray, List.set_cons_zero, List.set_cons_succ])
      refine wpAnyH_take (i := 6) (oi := ?oi11) (v := .string (s.extract 0 k ++ v)) (fuel := 2) ?hi11 ?hs11 ?hf11 ?hr11 ?hq11 (Or.inl ⟨?hw11, ?hy11⟩) hHeld ?rest11
      case hi11 => rw [List.getElem?_toArray]; rfl
      case hq11 => exact fun _ _ _ h => h
      case hs11 | hf11 | hr11 => kernel_rfl
      case hw11 => rfl
      case hy11 => (intro w1 hSw; (try dsimp only at hSw); go_simp; omega)
      (try simp only [Act.put, List.setIfInBounds_toArray, List.set_cons_zero, List.set_cons_succ])
      refine wpAnyH_take (i := 11) (oi := ?oi12) (v := .string (s.extract 0 k ++ v ++ s.extract (k + 1) s.size)) (fuel := 1) ?hi12 ?hs12 ?hf12 ?hr12 ?hq12 (Or.inl ⟨?hw12, ?hy12⟩) hHeld ?rest12
      case hi12 => rw [List.getElem?_toArray]; rfl
      case hq12 => exact fun _ _ _ h => h
      case hs12 | hf12 | hr12 => kernel_rfl
      case hw12 => rfl
      case hy12 => (intro w1 hSw; (try dsimp only at hSw); go_simp; omega)
      (try simp only [Act.put, List.setIfInBounds_toArray, List.set_cons_zero, List.set_cons_succ])
      refine wpAnyH_take (i := 12) (oi := ?oi13) (v := ?v13) (fuel := 0) ?hi13 ?hs13 ?hf13 ?hr13 ?hq13 (Or.inl ⟨?hw13, ?hy13⟩) hHeld ?rest13
      case hi13 => rw [List.getElem?_toArray]; rfl
      case hq13 => exact fun _ _ _ h => h
      case hs13 | hf13 | hr13 => kernel_rfl
      case hw13 => rfl
      case hy13 => (intro w1 hSw; (try dsimp only at hSw); go_simp; try with_reducible rfl)
      (try simp only [Act.put, List.setIfInBounds_toArray, List.set_cons_zero, List.set_cons_succ])
      refine wpAnyH_done (by kernel_rfl) ?_ _
      clear hHeld
      go_wp2_with fail
      go_ret
      exact ⟨⟨_, rfl, by first | (simp [ByteArray.size_extract, hvs]; omega) | (simp [hvs]; omega)⟩, _, by omega, hD.out⟩
    · have hlt' : ¬ ((k : Int) < (s.size : Int)) := by omega
      go_wp2_with fail
      go_ret
      exact ⟨⟨s, rfl, by omega⟩, _, by omega, HD.out⟩
  · go_wp2_with fail
    go_ret
    exact ⟨⟨_, rfl, by first | (simp [ByteArray.size_extract]; omega) | (simp; omega)⟩, _, by omega, HD.out⟩
  · go_wp2_with fail
    refine (of_k HD.out.rs (by omega) [⟨#[0]⟩, ⟨#[32]⟩, ⟨#[48]⟩] (by decide) (by decide)).mono ?_
    rintro e w3 ⟨v, hv, rfl, kk⟩
    replace HD := hid (HD.out.draw kk)
    clear kk
    have hvs : v.size = 1 := by
      simp only [List.mem_cons, List.not_mem_nil, or_false] at hv
      rcases hv with rfl | rfl | rfl <;> rfl
    clear hv
    go_wp2_with fail
    go_ret
    exact ⟨⟨_, rfl, by simp [hvs]; omega⟩, _, by omega, HD.out⟩
  · have z0 : (y == 0) = false := by simp; omega
    have z1 : (y == 1) = false := by simp; omega
    have z2 : (y == 2) = false := by simp; omega
    go_wp2_with fail
    go_ret
    exact ⟨⟨s, rfl, by omega⟩, _, by omega, HD.out⟩
theorem d_bent {w0 w : World} {B : Nat} {a : Option Addr} {len cap p : Nat} (h : RS w0 w B a len cap p) (hp : p ≤ 900000) (s : ByteArray) (hs : s.size ≤ 1000) :
    Calls Tryd.prog 24 #[.pointer (some ⟨B, 0, none⟩), .string s] w fun e w' => Draws w B (fun x : ByteArray × Nat => .string x.1) 52 (fun x => rdA a len cap x.2) (fun x => x.1.size ≤ 2100 ∧ x.2 ≤ p + 3) e w' := by
  refine (bent_k h hp s hs).mono ?_
  rintro e w' ⟨⟨t, rfl, ht⟩, q, hq, hk⟩
  obtain ⟨k1, k2⟩ := hk.keep h
  exact ⟨(t, q), rfl, ⟨ht, hq⟩, k1, k2⟩
end Go.Proofs.YtkaekiodjjhjkaaDoor
