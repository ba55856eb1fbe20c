/- Readers of the program: numbers. -/
import Derived.Test.YtkaekiodjjhjkaaDoorPU
namespace Go.Proofs.YtkaekiodjjhjkaaDoor
open Go.RowKit
set_option linter.unusedVariables false
set_option linter.unusedSimpArgs false

/-- The package-level tables, and the two errors of the decimals. -/
structure TabsRG (w : World) : Prop where
  t : TabsR w
  s : ∃ ev, w.cell? ⟨4, 0, none⟩ = some ev ∧ (ev = .nilIface ∨ ∃ te pe, ev = .iface te pe)
  r : ∃ ev, w.cell? ⟨5, 0, none⟩ = some ev ∧ (ev = .nilIface ∨ ∃ te pe, ev = .iface te pe)
  ls : 4 < w.heap.size
  lr : 5 < w.heap.size
theorem TabsRG.kb {w w' : World} (h : TabsRG w) {S : List Nat} (k : KB S w w') (hS : S = []) : TabsRG w' := by
  subst hS
  have g : ∀ a v, a < w.heap.size → w.cell? ⟨a, 0, none⟩ = some v → w'.cell? ⟨a, 0, none⟩ = some v := fun a v hl e => by rw [World.cell?_of_block (k.block _ hl (by simp))]; exact e
  refine ⟨h.t.kb k rfl, ?_, ?_, Nat.lt_of_lt_of_le h.ls k.size, Nat.lt_of_lt_of_le h.lr k.size⟩
  · obtain ⟨ev, h1, h2⟩ := h.s
    exact ⟨ev, g _ _ h.ls h1, h2⟩
  · obtain ⟨ev, h1, h2⟩ := h.r
    exact ⟨ev, g _ _ h.lr h1, h2⟩
/-- What a text reads as, as a number. -/
def atoiP (s : ByteArray) : Int × Bool := match Lib.atoiAll s.data.toList with
  | .ok v => (v, true)
  | .«syntax» => (0, false)
  | .range => (Lib.atoiSat s.data.toList, false)
def An2 (v : Int × Bool) (e : Ending) : Prop := ∃ (a : Int) (q : Bool), Hid (a = v.1) ∧ Hid (q = v.2) ∧ e = .returned (.tuple #[.int .i64 a, .bool q])
theorem below_bytes (w w' : World) (s : ByteArray) (h : w' = w ∨ ∃ t, w' = Lib.bytesWorld w 5 t) : Below w.heap.size w w' := by
  rcases h with rfl | ⟨t, rfl⟩
  · exact Below.refl _ _
  · exact Lib.bytesWorld_below _ _ _

set_option maxRecDepth 100000 in
set_option maxHeartbeats 4000000 in
theorem num_ok (s : ByteArray) (hs : s.size ≤ 281474976710656) (w : World) (v : Int) (h : Lib.atoiAll s.data.toList = .ok v) :
    Calls Tryd.prog 40 #[.string s] w fun e w' => An2 (atoiP s) e ∧ Below w.heap.size w w' := by
  have HE : Hid (atoiP s = (v, true)) := hid (by unfold atoiP; rw [h])
  have HH := hid h
  clear h
  go_enter Tryd.func40, Tryd.ntmps40
  go_wp2_with fail
  refine (Tryd.strconv_Atoi_ok s (by omega) v HH.out w).mono ?_
  rintro e w1 ⟨rfl, hb⟩
  have HZ := hid (below_bytes _ _ s hb)
  clear hb
  clear HH
  go_wp2_with fail
  refine wp_region_held_drew (S := (fun _ => True)) (by kernel_rfl) (trivial) (fun hHeld => ?_)
  have HZ2 := hid (HZ.out.drew)
  refine wpAnyH_take (i := 0) (oi := ?oi1) (v := ?v1) (fuel := 4) ?hi1 ?hs1 ?hf1 ?hr1 ?hq1 (Or.inl ⟨?hw1, ?hy1⟩) hHeld ?rest1
  case hi1 => rw [List.getElem?_toArray]; rfl
  case hq1 => exact fun _ _ _ h => h
  case hs1 | hf1 | hr1 => kernel_rfl
  case hw1 => rfl
  case hy1 => (intro w1 hSw; (try dsimp only at hSw); go_simp; try with_reducible rfl)
  (try simp only [Act.put, List.setIfInBounds_toArray, List.set_cons_zero, List.set_cons_succ])
  refine wpAnyH_take (i := 1) (oi := ?oi2) (v := ?v2) (fuel := 3) ?hi2 ?hs2 ?hf2 ?hr2 ?hq2 (Or.inl ⟨?hw2, ?hy2⟩) hHeld ?rest2
  case hi2 => rw [List.getElem?_toArray]; rfl
  case hq2 => exact fun _ _ _ h => h
  case hs2 | hf2 | hr2 => kernel_rfl
  case hw2 => rfl
  case hy2 => (intro w1 hSw; (try dsimp only at hSw); go_simp; try with_reducible rfl)
  (try simp only [Act.put, List.setIfInBounds_toArray, List.set_cons_zero, List.set_cons_succ])
  refine wpAnyH_take (i := 2) (oi := ?oi3) (v := ?v3) (fuel := 2) ?hi3 ?hs3 ?hf3 ?hr3 ?hq3 (Or.inl ⟨?hw3, ?hy3⟩) hHeld ?rest3
  case hi3 => rw [List.getElem?_toArray]; rfl
  case hq3 => exact fun _ _ _ h => h
  case hs3 | hf3 | hr3 => kernel_rfl
  case hw3 => rfl
  case hy3 => (intro w1 hSw; (try dsimp only at hSw); go_simp; try with_reducible rfl)
  (try simp only [Act.put, List.setIfInBounds_toArray, List.set_cons_zero, List.set_cons_succ])
  refine wpAnyH_take (i := 3) (oi := ?oi4) (v := ?v4) (fuel := 1) ?hi4 ?hs4 ?hf4 ?hr4 ?hq4 (Or.inl ⟨?hw4, ?hy4⟩) hHeld ?rest4
  case hi4 => rw [List.getElem?_toArray]; rfl
  case hq4 => exact fun _ _ _ h => h
  case hs4 | hf4 | hr4 => kernel_rfl
  case hw4 => rfl
  case hy4 => (intro w1 hSw; (try dsimp only at hSw); go_simp; try with_reducible rfl)
  (try simp only [Act.put, List.setIfInBounds_toArray, List.set_cons_zero, List.set_cons_succ])
  refine wpAnyH_take (i := 4) (oi := ?oi5) (v := ?v5) (fuel := 0) ?hi5 ?hs5 ?hf5 ?hr5 ?hq5 (Or.inl ⟨?hw5, ?hy5⟩) hHeld ?rest5
  case hi5 => rw [List.getElem?_toArray]; rfl
  case hq5 => exact fun _ _ _ h => h
  case hs5 | hf5 | hr5 => kernel_rfl
  case hw5 => rfl
  case hy5 => (intro w1 hSw; (try dsimp only at hSw); go_simp; try with_reducible rfl)
  (try simp only [Act.put, List.setIfInBounds_toArray, List.set_cons_zero, List.set_cons_succ])
  refine wpAnyH_done (by kernel_rfl) ?_ _
  clear hHeld
  go_wp2_with fail
  go_ret2
  exact ⟨⟨v, true, hid (by rw [HE.out]), hid (by rw [HE.out]), rfl⟩, HZ2.out⟩

set_option maxRecDepth 100000 in
set_option maxHeartbeats 4000000 in
theorem num_syn (s : ByteArray) (hs : s.size ≤ 281474976710656) (w : World) (hT : TabsRG w) (h : Lib.atoiAll s.data.toList = .«syntax») :
    Calls Tryd.prog 40 #[.string s] w fun e w' => An2 (atoiP s) e ∧ Below w.heap.size w w' := by
  have HE : Hid (atoiP s = (0, false)) := hid (by unfold atoiP; rw [h])
  have HH := hid h
  clear h
  obtain ⟨ev, he1, he2⟩ := hT.s
  go_enter Tryd.func40, Tryd.ntmps40
  go_wp2_with fail
  refine (Tryd.strconv_Atoi_syntax s hs HH.out ev w he1 he2).mono ?_
  rintro e w1 ⟨N, rfl, hN, hc, hb⟩
  have HZ := hid hb
  clear hb he1 he2 hT hc hN
  clear HH
  go_wp2_with fail
  refine wp_region_held_drew (S := (fun _ => True)) (by kernel_rfl) (trivial) (fun hHeld => ?_)
  have HZ2 := hid (HZ.out.drew)
  refine wpAnyH_take (i := 0) (oi := ?oi6) (v := ?v6) (fuel := 4) ?hi6 ?hs6 ?hf6 ?hr6 ?hq6 (Or.inl ⟨?hw6, ?hy6⟩) hHeld ?rest6
  case hi6 => rw [List.getElem?_toArray]; rfl
  case hq6 => exact fun _ _ _ h => h
  case hs6 | hf6 | hr6 => kernel_rfl
  case hw6 => rfl
  case hy6 => (intro w1 hSw; (try dsimp only at hSw); go_simp; try with_reducible rfl)
  (try simp only [Act.put, List.setIfInBounds_toArray, List.set_cons_zero, List.set_cons_succ])
  refine wpAnyH_take (i := 1) (oi := ?oi7) (v := ?v7) (fuel := 3) ?hi7 ?hs7 ?hf7 ?hr7 ?hq7 (Or.inl ⟨?hw7, ?hy7⟩) hHeld ?rest7
  case hi7 => rw [List.getElem?_toArray]; rfl
  case hq7 => exact fun _ _ _ h => h
  case hs7 | hf7 | hr7 => kernel_rfl
  case hw7 => rfl
  case hy7 => (intro w1 hSw; (try dsimp only at hSw); go_simp; try with_reducible rfl)
  (try simp only [Act.put, List.setIfInBounds_toArray, List.set_cons_zero, List.set_cons_succ])
  refine wpAnyH_take (i := 2) (oi := ?oi8) (v := ?v8) (fuel := 2) ?hi8 ?hs8 ?hf8 ?hr8 ?hq8 (Or.inl ⟨?hw8, ?hy8⟩) hHeld ?rest8
  case hi8 => rw [List.getElem?_toArray]; rfl
  case hq8 => exact fun _ _ _ h => h
  case hs8 | hf8 | hr8 => kernel_rfl
  case hw8 => rfl
  case hy8 => (intro w1 hSw; (try dsimp only at hSw); go_simp; try with_reducible rfl)
  (try simp only [Act.put, List.setIfInBounds_toArray, List.set_cons_zero, List.set_cons_succ])
  refine wpAnyH_take (i := 3) (oi := ?oi9) (v := ?v9) (fuel := 1) ?hi9 ?hs9 ?hf9 ?hr9 ?hq9 (Or.inl ⟨?hw9, ?hy9⟩) hHeld ?rest9
  case hi9 => rw [List.getElem?_toArray]; rfl
  case hq9 => exact fun _ _ _ h => h
  case hs9 | hf9 | hr9 => kernel_rfl
  case hw9 => rfl
  case hy9 => (intro w1 hSw; (try dsimp only at hSw); go_simp; try with_reducible rfl)
  (try simp only [Act.put, List.setIfInBounds_toArray, List.set_cons_zero, List.set_cons_succ])
  refine wpAnyH_take (i := 4) (oi := ?oi10) (v := ?v10) (fuel := 0) ?hi10 ?hs10 ?hf10 ?hr10 ?hq10 (Or.inl ⟨?hw10, ?hy10⟩) hHeld ?rest10
  case hi10 => rw [List.getElem?_toArray]; rfl
  case hq10 => exact fun _ _ _ h => h
  case hs10 | hf10 | hr10 => kernel_rfl
  case hw10 => rfl
  case hy10 => (intro w1 hSw; (try dsimp only at hSw); go_simp; try with_reducible rfl)
  (try simp only [Act.put, List.setIfInBounds_toArray, List.set_cons_zero, List.set_cons_succ])
  refine wpAnyH_done (by kernel_rfl) ?_ _
  clear hHeld
  go_wp2_with fail
  go_ret2
  exact ⟨⟨0, false, hid (by rw [HE.out]), hid (by rw [HE.out]), rfl⟩, HZ2.out⟩

set_option maxRecDepth 100000 in
set_option maxHeartbeats 4000000 in
theorem num_rng (s : ByteArray) (hs : s.size ≤ 281474976710656) (w : World) (hT : TabsRG w) (h : Lib.atoiAll s.data.toList = .range) :
    Calls Tryd.prog 40 #[.string s] w fun e w' => An2 (atoiP s) e ∧ Below w.heap.size w w' := by
  have HE : Hid (atoiP s = (Lib.atoiSat s.data.toList, false)) := hid (by unfold atoiP; rw [h])
  have HH := hid h
  clear h
  obtain ⟨ev, he1, he2⟩ := hT.r
  go_enter Tryd.func40, Tryd.ntmps40
  go_wp2_with fail
  refine (Tryd.strconv_Atoi_range s hs HH.out ev w he1 he2).mono ?_
  rintro e w1 ⟨N, rfl, hN, hc, hb⟩
  have HZ := hid hb
  clear hb he1 he2 hT hc hN
  clear HH
  go_wp2_with fail
  refine wp_region_held_drew (S := (fun _ => True)) (by kernel_rfl) (trivial) (fun hHeld => ?_)
  have HZ2 := hid (HZ.out.drew)
  refine wpAnyH_take (i := 0) (oi := ?oi11) (v := ?v11) (fuel := 4) ?hi11 ?hs11 ?hf11 ?hr11 ?hq11 (Or.inl ⟨?hw11, ?hy11⟩) hHeld ?rest11
  case hi11 => rw [List.getElem?_toArray]; rfl
  case hq11 => exact fun _ _ _ h => h
  case hs11 | hf11 | hr11 => kernel_rfl
  case hw11 => rfl
  case hy11 => (intro w1 hSw; (try dsimp only at hSw); go_simp; try with_reducible rfl)
  (try simp only [Act.put, List.setIfInBounds_toArray, List.set_cons_zero, List.set_cons_succ])
  refine wpAnyH_take (i := 1) (oi := ?oi12) (v := ?v12) (fuel := 3) ?hi12 ?hs12 ?hf12 ?hr12 ?hq12 (Or.inl ⟨?hw12, ?hy12⟩) hHeld ?rest12
  case hi12 => rw [List.getElem?_toArray]; rfl
  case hq12 => exact fun _ _ _ h => h
  case hs12 | hf12 | hr12 => kernel_rfl
  case hw12 => rfl
  case hy12 => (intro w1 hSw; (try dsimp only at hSw); go_simp; try with_reducible rfl)
  (try simp only [Act.put, List.setIfInBounds_toArray, List.set_cons_zero, List.set_cons_succ])
  refine wpAnyH_take (i := 2) (oi := ?oi13) (v := ?v13) (fuel := 2) ?hi13 ?hs13 ?hf13 ?hr13 ?hq13 (Or.inl ⟨?hw13, ?hy13⟩) hHeld ?rest13
  case hi13 => rw [List.getElem?_toArray]; rfl
  case hq13 => exact fun _ _ _ h => h
  case hs13 | hf13 | hr13 => kernel_rfl
  case hw13 => rfl
  case hy13 => (intro w1 hSw; (try dsimp only at hSw); go_simp; try with_reducible rfl)
  (try simp only [Act.put, List.setIfInBounds_toArray, List.set_cons_zero, List.set_cons_succ])
  refine wpAnyH_take (i := 3) (oi := ?oi14) (v := ?v14) (fuel := 1) ?hi14 ?hs14 ?hf14 ?hr14 ?hq14 (Or.inl ⟨?hw14, ?hy14⟩) hHeld ?rest14
  case hi14 => rw [List.getElem?_toArray]; rfl
  case hq14 => exact fun _ _ _ h => h
  case hs14 | hf14 | hr14 => kernel_rfl
  case hw14 => rfl
  case hy14 => (intro w1 hSw; (try dsimp only at hSw); go_simp; try with_reducible rfl)
  (try simp only [Act.put, List.setIfInBounds_toArray, List.set_cons_zero, List.set_cons_succ])
  refine wpAnyH_take (i := 4) (oi := ?oi15) (v := ?v15) (fuel := 0) ?hi15 ?hs15 ?hf15 ?hr15 ?hq15 (Or.inl ⟨?hw15, ?hy15⟩) hHeld ?rest15
  case hi15 => rw [List.getElem?_toArray]; rfl
  case hq15 => exact fun _ _ _ h => h
  case hs15 | hf15 | hr15 => kernel_rfl
  case hw15 => rfl
  case hy15 => (intro w1 hSw; (try dsimp only at hSw); go_simp; try with_reducible rfl)
  (try simp only [Act.put, List.setIfInBounds_toArray, List.set_cons_zero, List.set_cons_succ])
  refine wpAnyH_done (by kernel_rfl) ?_ _
  clear hHeld
  go_wp2_with fail
  go_ret2
  exact ⟨⟨_, false, hid (by rw [HE.out]), hid (by rw [HE.out]), rfl⟩, HZ2.out⟩

theorem num_w (s : ByteArray) (hs : s.size ≤ 281474976710656) (w : World) (hT : TabsRG w) : Calls Tryd.prog 40 #[.string s] w fun e w' => An2 (atoiP s) e ∧ Below w.heap.size w w' := by
  cases h : Lib.atoiAll s.data.toList
  · exact num_ok s hs w _ h
  · exact num_syn s hs w hT h
  · exact num_rng s hs w hT h

end Go.Proofs.YtkaekiodjjhjkaaDoor
