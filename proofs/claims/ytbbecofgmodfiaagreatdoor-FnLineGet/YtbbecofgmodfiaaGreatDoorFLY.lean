/- The draw of a line, and the walk of the law FnLineGet. -/
import Derived.Test.YtbbecofgmodfiaaGreatDoorKI
import Derived.Test.YtbbecofgmodfiaaGreatDoorZX
import Derived.WalkKit
import Derived.ProofKit
import Derived.OpenShut
import Derived.ChangeSlices
import Derived.ChangeOld
import Derived.Below
namespace Go.Proofs.YtbbecofgmodfiaaGreatDoor
section
open Go.RowKit
set_option linter.unusedVariables false
set_option linter.unusedSimpArgs false

set_option maxRecDepth 100000 in
set_option maxHeartbeats 4000000 in
theorem of_k {w0 w : World} {B : Nat} {a : Option Addr} {len cap p : Nat} (h : RS w0 w B a len cap p) (hp : p ≤ 1000000) (l : List ByteArray) (m0 : 0 < l.length) (m1 : l.length ≤ 1000) :
    Calls Tryz.prog 49 #[.pointer (some ⟨B, 0, none⟩), .slice (some ⟨w.heap.size, 0, none⟩) l.length l.length] (w.alloc (.cells (l.map Value.string).toArray 9 (0, 0)))
      fun e w' => ∃ v : ByteArray, v ∈ l ∧ e = .returned (.string v) ∧ K3 w0 w w' B a len cap (p + 1) := by
  have HS := hid (SL.new w l 9)
  have HD := hid ((K3.start h).alloc (.cells (l.map Value.string).toArray 9 (0, 0)))
  have lB := h.lt
  clear h
  generalize w.alloc (.cells (l.map Value.string).toArray 9 (0, 0)) = w1 at *
  have m0' : (1 : Int) ≤ (l.length : Int) := by omega
  have m1' : (l.length : Int) ≤ 1000 := by omega
  go_enter Tryz.func49, Tryz.ntmps49
  go_wp2_with fail
  refine (pick_k HD.out.rs (by omega) _ (by omega) (by omega)).mono ?_
  rintro e w2 ⟨m, rfl, hm, kk⟩
  have lS := HS.out.1
  have lS2 : w.heap.size < w2.heap.size := Nat.lt_of_lt_of_le lS kk.kp.1
  have hc := (K3.cellO (j := m) kk lS (by omega)).trans (HS.out.2 m (by omega))
  replace HD := hid (HD.out.draw kk)
  clear kk HS
  have hm0 : (0 : Int) ≤ (m : Int) := by omega
  have hmem : l.getD m ⟨#[]⟩ ∈ l := by rw [List.getD, List.getElem?_eq_getElem (by omega)]; exact List.getElem_mem _
  generalize l.getD m ⟨#[]⟩ = y at *
  go_wp2_with fail
  go_ret
  exact ⟨_, hmem, rfl, HD.out⟩
/-- Some string, not long. -/
def AnT (m : Nat) (e : Ending) : Prop := ∃ t : ByteArray, e = .returned (.string t) ∧ t.size ≤ m
set_option maxRecDepth 100000 in
set_option maxHeartbeats 4000000 in
theorem bent_k {w0 w : World} {B : Nat} {a : Option Addr} {len cap p : Nat} (h : RS w0 w B a len cap p) (hp : p ≤ 900000) (s : ByteArray) (hs : s.size ≤ 1000) :
    Calls Tryz.prog 23 #[.pointer (some ⟨B, 0, none⟩), .string s] w fun e w' => AnT 2100 e ∧ ∃ q, q ≤ p + 3 ∧ K3 w0 w w' B a len cap q := by
  have HD := hid (K3.start h)
  clear h
  have hs' : (s.size : Int) ≤ 1000 := by omega
  have hs0 : (0 : Int) ≤ (s.size : Int) := by omega
  go_enter Tryz.func23, Tryz.ntmps23
  go_wp2_with fail
  refine (pick_k HD.out.rs (by omega) _ (by omega) (by omega)).mono ?_
  rintro e w1 ⟨k, rfl, hk, kk⟩
  replace HD := hid (HD.out.draw kk)
  clear kk
  have hk0 : (0 : Int) ≤ (k : Int) := by omega
  have hk1 : k ≤ s.size := by omega
  go_wp2_with fail
  refine (pick_k HD.out.rs (by omega) 5 (by omega) (by omega)).mono ?_
  rintro e w2 ⟨m, rfl, hm, kk⟩
  replace HD := hid (HD.out.draw kk)
  clear kk
  have hm0 : (0 : Int) ≤ (m : Int) := by omega
  generalize (m : Int) = y at *
  have hyc : y = 0 ∨ y = 1 ∨ y = 2 ∨ 2 < y := by omega
  rcases hyc with rfl | rfl | rfl | hy
  · by_cases hlt : k < s.size
    · have hlt' : (k : Int) < (s.size : Int) := by omega
      have hki : (k : Int) + 1 ≤ (s.size : Int) := by omega
      have hwk : IntKind.i64.wrap ((k : Int) + 1) = (k : Int) + 1 := by rw [IntKind.wrap_i64]; omega
      have hk1p : (0 : Int) ≤ (k : Int) + 1 := by omega
      have htk : ((k : Int) + 1).toNat = k + 1 := by omega
      go_wp2_with fail
      refine wp_region_held_drew (S := (fun _ => True)) (by kernel_rfl) (trivial) (fun hHeld => ?_)
      have hD := hid HD.out.drew
      clear HD
      generalize w2.drew = W1 at *
      refine wpAnyH_take (i := 0) (oi := ?oi1) (v := ?v1) (fuel := 12) ?hi1 ?hs1 ?hf1 ?hr1 ?hq1 (Or.inl ⟨?hw1, ?hy1⟩) hHeld ?rest1
      case hi1 => rw [List.getElem?_toArray]; rfl
      case hq1 => exact fun _ _ _ h => h
      case hs1 | hf1 | hr1 => kernel_rfl
      case hw1 => rfl
      case hy1 => (intro w1 hSw; (try dsimp only at hSw); go_simp; try with_reducible rfl)
      (try simp only [Act.put, List.setIfInBounds_toArray, List.set_cons_zero, List.set_cons_succ])
      refine wpAnyH_take (i := 1) (oi := ?oi2) (v := ?v2) (fuel := 11) ?hi2 ?hs2 ?hf2 ?hr2 ?hq2 (Or.inl ⟨?hw2, ?hy2⟩) hHeld ?rest2
      case hi2 => rw [List.getElem?_toArray]; rfl
      case hq2 => exact fun _ _ _ h => h
      case hs2 | hf2 | hr2 => kernel_rfl
      case hw2 => rfl
      case hy2 => (intro w1 hSw; (try dsimp only at hSw); go_simp; try with_reducible rfl)
      (try simp only [Act.put, List.setIfInBounds_toArray, List.set_cons_zero, List.set_cons_succ])
      refine wpAnyH_take (i := 2) (oi := ?oi3) (v := ?v3) (fuel := 10) ?hi3 ?hs3 ?hf3 ?hr3 ?hq3 (Or.inl ⟨?hw3, ?hy3⟩) hHeld ?rest3
      case hi3 => rw [List.getElem?_toArray]; rfl
      case hq3 => exact fun _ _ _ h => h
      case hs3 | hf3 | hr3 => kernel_rfl
      case hw3 => rfl
      case hy3 => (intro w1 hSw; (try dsimp only at hSw); go_simp; try with_reducible rfl)
      (try simp only [Act.put, List.setIfInBounds_toArray, List.set_cons_zero, List.set_cons_succ])
      refine wpAnyH_take (i := 3) (oi := ?oi4) (v := ?v4) (fuel := 9) ?hi4 ?hs4 ?hf4 ?hr4 ?hq4 (Or.inl ⟨?hw4, ?hy4⟩) hHeld ?rest4
      case hi4 => rw [List.getElem?_toArray]; rfl
      case hq4 => exact fun _ _ _ h => h
      case hs4 | hf4 | hr4 => kernel_rfl
      case hw4 => rfl
      case hy4 => (intro w1 hSw; (try dsimp only at hSw); go_simp; try with_reducible rfl)
      (try simp only [Act.put, List.setIfInBounds_toArray, List.set_cons_zero, List.set_cons_succ])
      refine wpAnyH_take (i := 7) (oi := ?oi5) (v := ?v5) (fuel := 8) ?hi5 ?hs5 ?hf5 ?hr5 ?hq5 (Or.inl ⟨?hw5, ?hy5⟩) hHeld ?rest5
      case hi5 => rw [List.getElem?_toArray]; rfl
      case hq5 => exact fun _ _ _ h => h
      case hs5 | hf5 | hr5 => kernel_rfl
      case hw5 => rfl
      case hy5 => (intro w1 hSw; (try dsimp only at hSw); go_simp; try with_reducible rfl)
      (try simp only [Act.put, List.setIfInBounds_toArray, List.set_cons_zero, List.set_cons_succ])
      refine wpAnyH_take (i := 8) (oi := ?oi6) (v := ?v6) (fuel := 7) ?hi6 ?hs6 ?hf6 ?hr6 ?hq6 (Or.inl ⟨?hw6, ?hy6⟩) hHeld ?rest6
      case hi6 => rw [List.getElem?_toArray]; rfl
      case hq6 => exact fun _ _ _ h => h
      case hs6 | hf6 | hr6 => kernel_rfl
      case hw6 => rfl
      case hy6 => (intro w1 hSw; (try dsimp only at hSw); go_simp; try with_reducible rfl)
      (try simp only [Act.put, List.setIfInBounds_toArray, List.set_cons_zero, List.set_cons_succ])
      refine wpAnyH_take (i := 9) (oi := ?oi7) (v := .int .i64 ((k : Int) + 1)) (fuel := 6) ?hi7 ?hs7 ?hf7 ?hr7 ?hq7 (Or.inl ⟨?hw7, ?hy7⟩) hHeld ?rest7
      case hi7 => rw [List.getElem?_toArray]; rfl
      case hq7 => exact fun _ _ _ h => h
      case hs7 | hf7 | hr7 => kernel_rfl
      case hw7 => rfl
      case hy7 => (intro w1 hSw; (try dsimp only at hSw); go_simp; try simp [hwk])
      (try simp only [Act.put, List.setIfInBounds_toArray, List.set_cons_zero, List.set_cons_succ])
      refine wpAnyH_take (i := 10) (oi := ?oi8) (v := .string (s.extract (k + 1) s.size)) (fuel := 5) ?hi8 ?hs8 ?hf8 ?hr8 ?hq8 (Or.inl ⟨?hw8, ?hy8⟩) hHeld ?rest8
      case hi8 => rw [List.getElem?_toArray]; rfl
      case hq8 => exact fun _ _ _ h => h
      case hs8 | hf8 | hr8 => kernel_rfl
      case hw8 => rfl
      case hy8 => (intro w1 hSw; (try dsimp only at hSw); go_simp; try rw [if_pos hk1p])
      (try simp only [Act.put, List.setIfInBounds_toArray, List.set_cons_zero, List.set_cons_succ])
      refine wpAnyH_ready (fuel := 4) (rs := [4]) (by kernel_rfl) (by simp) ?_
      refine AllReadyH.cons (o := ?oi9) ?hi9 (fun K hK => ?st9) AllReadyH.nil
      case hi9 => rw [List.getElem?_toArray]; rfl
      go_simp
      refine hK.out _ _ ?hS9 (fun hHeld => ?re9)
      case hS9 => trivial
      clear hK K
      (try simp only [Act.put, List.setIfInBounds_toArray, List.set_cons_zero, List.set_cons_succ])
      refine wpAnyH_ready (fuel := 3) (rs := [5]) (by kernel_rfl) (by simp) ?_
      refine AllReadyH.cons (o := ?oi10) ?hi10 (fun K hK => ?st10) AllReadyH.nil
      case hi10 => rw [List.getElem?_toArray]; rfl
      go_simp
      refine (of_k hD.out.rs (by omega) [⟨#[0]⟩, ⟨#[49]⟩, ⟨#[255]⟩, ⟨#[32]⟩, ⟨#[114]⟩, ⟨#[16]⟩] (by decide) (by decide)).mono ?_
      rintro ee wr5 ⟨v, hv, rfl, kk⟩
      replace hD := hid (hD.out.draw kk)
      have hvs : v.size = 1 := by
        simp only [List.mem_cons, List.not_mem_nil, or_false] at hv
        rcases hv with rfl | rfl | rfl | rfl | rfl | rfl <;> rfl
      clear kk hv
      go_wp2_with fail
      refine hK.out _ _ ?hS10 (fun hHeld => ?re10)
      case hS10 => trivial
      clear hK K
      (try simp only [Act.put, List.setIfInBounds_toArray, List.set_cons_zero, List.set_cons_succ])
      refine wpAnyH_take (i := 6) (oi := ?oi11) (v := .string (s.extract 0 k ++ v)) (fuel := 2) ?hi11 ?hs11 ?hf11 ?hr11 ?hq11 (Or.inl ⟨?hw11, ?hy11⟩) hHeld ?rest11
      case hi11 => rw [List.getElem?_toArray]; rfl
      case hq11 => exact fun _ _ _ h => h
      case hs11 | hf11 | hr11 => kernel_rfl
      case hw11 => rfl
      case hy11 => (intro w1 hSw; (try dsimp only at hSw); go_simp; omega)
      (try simp only [Act.put, List.setIfInBounds_toArray, List.set_cons_zero, List.set_cons_succ])
      refine wpAnyH_take (i := 11) (oi := ?oi12) (v := .string (s.extract 0 k ++ v ++ s.extract (k + 1) s.size)) (fuel := 1) ?hi12 ?hs12 ?hf12 ?hr12 ?hq12 (Or.inl ⟨?hw12, ?hy12⟩) hHeld ?rest12
      case hi12 => rw [List.getElem?_toArray]; rfl
      case hq12 => exact fun _ _ _ h => h
      case hs12 | hf12 | hr12 => kernel_rfl
      case hw12 => rfl
      case hy12 => (intro w1 hSw; (try dsimp only at hSw); go_simp; omega)
      (try simp only [Act.put, List.setIfInBounds_toArray, List.set_cons_zero, List.set_cons_succ])
      refine wpAnyH_take (i := 12) (oi := ?oi13) (v := ?v13) (fuel := 0) ?hi13 ?hs13 ?hf13 ?hr13 ?hq13 (Or.inl ⟨?hw13, ?hy13⟩) hHeld ?rest13
      case hi13 => rw [List.getElem?_toArray]; rfl
      case hq13 => exact fun _ _ _ h => h
      case hs13 | hf13 | hr13 => kernel_rfl
      case hw13 => rfl
      case hy13 => (intro w1 hSw; (try dsimp only at hSw); go_simp; try with_reducible rfl)
      (try simp only [Act.put, List.setIfInBounds_toArray, List.set_cons_zero, List.set_cons_succ])
      refine wpAnyH_done (by kernel_rfl) ?_ _
      clear hHeld
      go_wp2_with fail
      go_ret
      exact ⟨⟨_, rfl, by first | (simp [ByteArray.size_extract, hvs]; omega) | (simp [hvs]; omega)⟩, _, by omega, hD.out⟩
    · have hlt' : ¬ ((k : Int) < (s.size : Int)) := by omega
      go_wp2_with fail
      go_ret
      exact ⟨⟨s, rfl, by omega⟩, _, by omega, HD.out⟩
  · go_wp2_with fail
    go_ret
    exact ⟨⟨_, rfl, by first | (simp [ByteArray.size_extract]; omega) | (simp; omega)⟩, _, by omega, HD.out⟩
  · go_wp2_with fail
    refine (of_k HD.out.rs (by omega) [⟨#[0]⟩, ⟨#[32]⟩, ⟨#[48]⟩] (by decide) (by decide)).mono ?_
    rintro e w3 ⟨v, hv, rfl, kk⟩
    replace HD := hid (HD.out.draw kk)
    clear kk
    have hvs : v.size = 1 := by
      simp only [List.mem_cons, List.not_mem_nil, or_false] at hv
      rcases hv with rfl | rfl | rfl <;> rfl
    clear hv
    go_wp2_with fail
    go_ret
    exact ⟨⟨_, rfl, by simp [hvs]; omega⟩, _, by omega, HD.out⟩
  · have z0 : (y == 0) = false := by simp; omega
    have z1 : (y == 1) = false := by simp; omega
    have z2 : (y == 2) = false := by simp; omega
    go_wp2_with fail
    go_ret
    exact ⟨⟨s, rfl, by omega⟩, _, by omega, HD.out⟩
end
section
open Go.RowKit
set_option linter.unusedVariables false
set_option linter.unusedSimpArgs false

set_option maxRecDepth 100000 in
set_option maxHeartbeats 4000000 in
theorem drawLineGet_w (w : World) (a : Option Addr) (len cap : Nat) (hc : len ≤ cap) (hs : Src w a len) (hl : cap < 2 ^ 63) :
    Calls Tryz.prog 9 #[.slice a len cap] w fun e w' => AnT 2100 e ∧ Below w.heap.size w w' := by
  have HS := hid hs
  clear hs
  go_enter Tryz.func9, Tryz.ntmps9
  go_wp2_with fail
  refine (open_s w a len cap hc HS.out hl).mono ?_
  rintro e w2 ⟨n, rfl, h1⟩
  have HR := hid h1
  clear h1
  go_wp2_with fail
  refine (ins_k HR.out (by omega)).mono ?_
  rintro e w3 ⟨⟨z0, z1, z2, z3, z4, z5, rfl⟩, q2, hq2, kk⟩
  have HD := hid kk
  clear kk HR
  go_wp2_with fail
  refine (G.putS_w z0 z1 z2 z3 z4 z5 _).mono ?_
  rintro e w4 ⟨⟨x, hx, _, rfl⟩, b4⟩
  replace HD := hid (HD.out.below b4)
  clear b4
  go_wp2_with fail
  refine (pick_k HD.out.rs (by omega) 3 (by omega) (by omega)).mono ?_
  rintro e w5 ⟨m, rfl, hm, kk⟩
  replace HD := hid (HD.out.draw kk)
  clear kk
  by_cases hm0 : m = 0
  · subst hm0
    go_wp2_with fail
    refine (bent_k HD.out.rs (by omega) x (by omega)).mono ?_
    rintro e w6 ⟨⟨t, rfl, ht⟩, q, hq, kk⟩
    replace HD := hid (HD.out.draw kk)
    clear kk
    go_wp2_with fail
    go_ret
    exact ⟨⟨t, rfl, ht⟩, HD.out.rs.bel⟩
  · have hm1 : (0 : Int) < (m : Int) := by omega
    go_wp2_with fail
    go_ret
    exact ⟨⟨x, rfl, by omega⟩, HD.out.rs.bel⟩
end
section
open Go.ChangeShapes Go.WideShapes Go.ChangeAt Go.RowKit

theorem own : ownKnob Tryz.prog.godebug = none := by kernel_rfl
theorem laidOut : laidOutB Tryz.prog = true := by kernel_rfl
theorem cellsB : Tryz.prog.cellsOf 5 = 1 := by kernel_rfl

set_option maxRecDepth 100000 in
theorem open_bytes {H : Type} {enc : TypeId × Value → H} {w : World} {r : Reach} {b0 base : Nat} {spare : Nat → Bool} {held : Bool} {v : Value} {d0 : DataW H} {p : List MemPlace}
    (hv : Value.okWide Tryz.prog w r b0 22 v) (h : DataW.Trod enc Tryz.prog w base spare held 22 v d0 p) :
    ∃ (a : Option Addr) (len cap : Nat), v = .slice a len cap ∧ len ≤ cap ∧ cap < 2 ^ 63 ∧ Src w a len := by
  obtain ⟨a, len, cap, rfl⟩ := okWide_slice Tryz.underlying22 hv
  obtain ⟨fuel, hf⟩ := h
  rcases Go.ChangeShapes.open_ints Tryz.underlying22 Tryz.underlying5 cellsB hf with ⟨hcs, _⟩ | ⟨x, len', cap', zs, hcs, _, hl, hm, hz, _, hc, hw⟩
  · simp [Value.cells] at hcs
    obtain ⟨rfl, rfl, rfl⟩ := hcs
    exact ⟨none, 0, 0, rfl, Nat.le_refl _, by decide, .inl rfl⟩
  · simp [Value.cells] at hcs
    obtain ⟨rfl, rfl, rfl⟩ := hcs
    refine ⟨_, _, _, rfl, hl, Nat.lt_of_le_of_lt hm (by decide), ?_⟩
    have hlz : len ≤ zs.length := by rw [hz]; split <;> omega
    by_cases h0 : len = 0
    · exact .inl h0
    have c0 := hc 0 (by omega)
    obtain ⟨b, off, spot⟩ := x
    have hspot : spot = none := by
      have := World.cell?_spot c0
      simpa [Addr.add] using this
    subst hspot
    refine .inr ⟨b, off, rfl, ?_, fun j hj => ?_⟩
    · have := World.block_lt_of_cell? w _ c0
      simpa [Addr.add] using this
    · have c := hc j (by omega)
      have hj2 : j < zs.length := by omega
      have hmem : zs.getD j 0 ∈ zs := by simp [hj2]
      have wf := hw _ hmem
      rw [Addr.add_lit] at c
      have k : 0 ≤ zs.getD j 0 ∧ zs.getD j 0 < 256 := by
        simp only [Lit.wf, Bool.and_eq_true] at wf
        have l1 : (0 : Int) ≤ zs.getD j 0 := of_decide_eq_true wf.1
        have l2 : zs.getD j 0 ≤ (255 : Int) := of_decide_eq_true wf.2
        omega
      refine ⟨(zs.getD j 0).toNat, by omega, ?_⟩
      rw [c, Int.toNat_of_nonneg k.1]
end
section
open Go.RowKit
set_option linter.unusedVariables false
set_option linter.unusedSimpArgs false

set_option maxRecDepth 100000 in
set_option maxHeartbeats 4000000 in
theorem law_fnLineGet (w : World) (a : Option Addr) (len cap : Nat) (hc : len ≤ cap) (hs : Src w a len) (hl : cap < 2 ^ 63) (hT : G.TabsG w) :
    Calls Tryz.prog 4 #[.slice a len cap] w fun e w' => e = .returned (.bool true) ∧ Below w.heap.size w w' := by
  have HS := hid hs
  have HT := hid hT
  clear hs hT
  go_enter Tryz.func4, Tryz.ntmps4
  go_wp2_with fail
  · go_ret
    exact ⟨rfl, Below.refl _ _⟩
  refine (drawLineGet_w w a len cap hc HS.out hl).mono ?_
  rintro e w1 ⟨⟨t, rfl, ht⟩, hb1⟩
  have HB := hid hb1
  have ht2 : t.size ≤ 1048576 := by omega
  have ht' : (t.size : Int) ≤ 2100 := by omega
  clear hb1 HS
  by_cases hline : ∃ o d s f i z : Int, sokB o d s f i z = true ∧ t = G.lineS o d s f i z
  · obtain ⟨o, d, s, f, i, z, hok, he⟩ := hline
    have HI := hid (fun w (hT : G.TabsG w) => (show Calls Tryz.prog 8 #[.string t] w _ by rw [he]; exact G.getLine o d s f i z w hT hok))
    have HP := hid (fun w => (show Calls Tryz.prog 10 #[.string t] w _ by rw [he]; exact G.getS o d s f i z hok w))
    have HM := hid (fun w (hT : G.TabsG w) => (show Calls Tryz.prog 8 #[.string (t ++ ⟨#[32]⟩)] w _ from G.getNoI _ (by rw [ByteArray.size_append]; show _ + 1 ≤ _; omega) (fun o' d' s' f' i' z' h' => by rw [he]; exact G.no_blank o d s f i z hok o' d' s' f' i' z' h') w hT))
    have HE := hid (show G.linePutS o d s f i z = t by unfold G.linePutS; rw [hok]; exact he.symm)
    clear he hok
    go_wp2_with fail
    refine (HI.out _ (HT.out.below HB.out)).mono ?_
    rintro e w2 ⟨rfl, b2⟩
    replace HB := hid (HB.out.to b2)
    clear b2
    have HX : Hid (Box6 (w2.alloc (.cells #[.int .i64 o, .int .i64 d, .int .i64 s, .int .i64 f, .int .i64 i, .int .i64 z] 24)) w2.heap.size o d s f i z) := World.alloc_heap_new w2 _
    replace HB := hid (HB.out.alloc HB.out.size (.cells #[.int .i64 o, .int .i64 d, .int .i64 s, .int .i64 f, .int .i64 i, .int .i64 z] 24))
    go_wp2_with fail
    generalize w2.alloc (.cells #[.int .i64 o, .int .i64 d, .int .i64 s, .int .i64 f, .int .i64 i, .int .i64 z] 24) = w3 at *
    generalize w2.heap.size = X at *
    refine (HP.out _).mono ?_
    rintro e w4 ⟨rfl, b4⟩
    replace HX := hid (HX.out.bel b4)
    replace HB := hid (HB.out.to b4)
    clear b4
    have HY : Hid (Box6 (w4.alloc (.cells #[.int .i64 o, .int .i64 d, .int .i64 s, .int .i64 f, .int .i64 i, .int .i64 z] 24)) w4.heap.size o d s f i z) := World.alloc_heap_new w4 _
    have ba : Below w4.heap.size w4 (w4.alloc (.cells #[.int .i64 o, .int .i64 d, .int .i64 s, .int .i64 f, .int .i64 i, .int .i64 z] 24)) := (Below.refl _ _).alloc (Nat.le_refl _) _
    replace HX := hid (HX.out.bel ba)
    replace HB := hid (HB.out.to ba)
    clear ba
    obtain ⟨x0, x1, x2, x3, x4, x5⟩ := Box6.cells HX.out
    have xl := Box6.lt HX.out
    obtain ⟨y0, y1, y2, y3, y4, y5⟩ := Box6.cells HY.out
    have yl := Box6.lt HY.out
    go_wp2_with fail
    clear x0 x1 x2 x3 x4 x5 xl y0 y1 y2 y3 y4 y5 yl HY
    generalize w4.alloc (.cells #[.int .i64 o, .int .i64 d, .int .i64 s, .int .i64 f, .int .i64 i, .int .i64 z] 24) = w5 at *
    refine (HM.out _ (HT.out.below HB.out)).mono ?_
    rintro e w6 ⟨rfl, b6⟩
    replace HX := hid (HX.out.bel b6)
    replace HB := hid (HB.out.to b6)
    clear b6
    have ba : Below w6.heap.size w6 (w6.alloc (.cells #[.int .i64 0, .int .i64 0, .int .i64 0, .int .i64 0, .int .i64 0, .int .i64 0] 24)) := (Below.refl _ _).alloc (Nat.le_refl _) _
    replace HX := hid (HX.out.bel ba)
    replace HB := hid (HB.out.to ba)
    clear ba
    obtain ⟨x0, x1, x2, x3, x4, x5⟩ := Box6.cells HX.out
    have xl := Box6.lt HX.out
    go_wp2_with fail
    clear x0 x1 x2 x3 x4 x5 xl
    refine (G.putI_w o d s f i z _ (HT.out.t.below HB.out)).mono ?_
    rintro e w7 ⟨⟨x, hx, hxe, rfl⟩, b7⟩
    replace HB := hid (HB.out.to b7)
    clear b7
    obtain rfl : x = t := hxe.out.trans HE.out
    have hq : (x.toList == x.toList) = true := by simp
    go_wp2_with fail
    go_ret
    exact ⟨rfl, HB.out⟩
  · have hno : ∀ o d s f i z : Int, sokB o d s f i z = true → t ≠ G.lineS o d s f i z := fun o d s f i z h1 h2 => hline ⟨o, d, s, f, i, z, h1, h2⟩
    have HI := hid (fun w (hT : G.TabsG w) => G.getNoI t ht2 hno w hT)
    have HP := hid (fun w => G.getNoS t ht2 hno w)
    clear hline hno
    go_wp2_with fail
    refine (HI.out _ (HT.out.below HB.out)).mono ?_
    rintro e w2 ⟨rfl, b2⟩
    replace HB := hid (HB.out.to b2)
    clear b2
    have HX : Hid (Box6 (w2.alloc (.cells #[.int .i64 0, .int .i64 0, .int .i64 0, .int .i64 0, .int .i64 0, .int .i64 0] 24)) w2.heap.size 0 0 0 0 0 0) := World.alloc_heap_new w2 _
    replace HB := hid (HB.out.alloc HB.out.size (.cells #[.int .i64 0, .int .i64 0, .int .i64 0, .int .i64 0, .int .i64 0, .int .i64 0] 24))
    go_wp2_with fail
    generalize w2.alloc (.cells #[.int .i64 0, .int .i64 0, .int .i64 0, .int .i64 0, .int .i64 0, .int .i64 0] 24) = w3 at *
    generalize w2.heap.size = X at *
    refine (HP.out _).mono ?_
    rintro e w4 ⟨rfl, b4⟩
    replace HX := hid (HX.out.bel b4)
    replace HB := hid (HB.out.to b4)
    clear b4
    have HY : Hid (Box6 (w4.alloc (.cells #[.int .i64 0, .int .i64 0, .int .i64 0, .int .i64 0, .int .i64 0, .int .i64 0] 24)) w4.heap.size 0 0 0 0 0 0) := World.alloc_heap_new w4 _
    have ba : Below w4.heap.size w4 (w4.alloc (.cells #[.int .i64 0, .int .i64 0, .int .i64 0, .int .i64 0, .int .i64 0, .int .i64 0] 24)) := (Below.refl _ _).alloc (Nat.le_refl _) _
    replace HX := hid (HX.out.bel ba)
    replace HB := hid (HB.out.to ba)
    clear ba
    obtain ⟨x0, x1, x2, x3, x4, x5⟩ := Box6.cells HX.out
    have xl := Box6.lt HX.out
    obtain ⟨y0, y1, y2, y3, y4, y5⟩ := Box6.cells HY.out
    have yl := Box6.lt HY.out
    go_wp2_with fail
    go_ret
    exact ⟨rfl, HB.out⟩
end
end Go.Proofs.YtbbecofgmodfiaaGreatDoor
