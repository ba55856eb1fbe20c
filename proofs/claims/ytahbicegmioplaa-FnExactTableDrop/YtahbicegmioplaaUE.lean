/- Copies of tables that may be written; boxes and tables carried along. -/
import Derived.Test.YtahbicegmioplaaUD
namespace Go.Proofs.Ytahbicegmioplaa
open Go.RowKit
set_option linter.unusedSimpArgs false
set_option linter.unusedVariables false

set_option maxRecDepth 100000 in
set_option maxHeartbeats 2000000 in
theorem f29r (xs : List Int) (a : Option Addr) (cap : Nat) (w : World) (hA : ArgI w a xs) (hn : xs.length ≤ 1048576) :
    Calls Try.prog 62 #[.slice a xs.length cap] w fun e w' => e = .returned (.slice (some ⟨w.heap.size, 0, none⟩) xs.length xs.length) ∧ IntRow w' w.heap.size 0 xs ∧ w.heap.size < w'.heap.size ∧ Below w.heap.size w w' ∧ Room w' w.heap.size xs.length := by
  obtain ⟨i0, hi, hz0, hz1, hz2⟩ := info_parts info3
  go_enter Try.func62, Try.ntmps62
  go_wp2_with (first | (refine wpList_make_full _ rfl _ _ 25 rfl w.heap.size 3 i0 _ 1 Try.underlying25 hi hz0 hz1 .i64 .i64 _ _ xs.length rfl rfl rfl rfl ?m1 ?m2 (Nat.le_refl _) ?_))
  case m1 => rw [hz2]; omega
  case m2 => unfold maxLen; omega
  intro w1 hown hgrow
  have hroom := room_own hown
  have hbel : Below w.heap.size w w1 := (Below.refl _ _).grown hgrow (Nat.le_refl _) (fun k hk => by cases hk)
  have hsz : w.heap.size < w1.heap.size := own_size hown
  clear hown hgrow hi hz0 hz1 hz2
  go_wp2_with fail
  go_loopw [4] (fun i wr => ∃ k : Nat, k ≤ xs.length ∧ i = .int .i64 k ∧ Below w.heap.size w wr ∧ Room wr w.heap.size xs.length ∧ w.heap.size < wr.heap.size ∧ (∀ j (h : j < xs.length), j < k → wr.cell? ⟨w.heap.size, j, none⟩ = some (.int .i64 xs[j]))) (fun i _ => xs.length - (intOf i).toNat)
  case atStart => exact ⟨0, Nat.zero_le _, rfl, hbel, hroom, hsz, fun j _ h => absurd h (by omega)⟩
  case round =>
    clear hbel hroom hsz
    obtain ⟨k, hk, rfl, hbw, hroom, hsz, hdone⟩ := hrel
    have HD : Hid _ := hdone
    have HR : Hid _ := hroom
    clear hdone
    by_cases hlt : k < xs.length
    · have hlt' : (k : Int) < (xs.length : Int) := by omega
      obtain ⟨b, p, rfl, hb, hc⟩ := (hA.below hbw (Nat.le_refl _)).at k hlt
      obtain ⟨x, hx⟩ : ∃ x, x = xs[k] := ⟨_, rfl⟩
      have HX : Hid _ := hx
      rw [← hx] at hc
      clear hx
      obtain ⟨⟨u0, g0⟩, z0⟩ := hroom k hlt
      clear hroom
      go_wp2_with fail
      refine ⟨⟨k + 1, by omega, by go_num, hbw.setCell (Nat.le_refl _) _, Room.set HR.out _ _, by simpa using hsz, ?_⟩, by simp [intOf]; omega⟩
      intro j h hj
      by_cases hjk : j < k
      · rw [World.cell?_setCell_other]; · exact HD.out j h hjk
        intro e; simp at e; try omega
      · obtain rfl : j = k := by omega
        rw [← HX.out]
        exact World.cell?_setCell_same _ _ _ g0
    · obtain rfl : k = xs.length := by omega
      go_wp2_with fail
      go_ret
      exact ⟨rfl, fun j h => by rw [Nat.zero_add]; exact HD.out j h h, hsz, hbw, HR.out⟩

set_option maxRecDepth 100000 in
set_option maxHeartbeats 2000000 in
theorem f30r (xs : List ByteArray) (a : Option Addr) (cap : Nat) (w : World) (hA : ArgS w a xs) (hn : xs.length ≤ 1048576) :
    Calls Try.prog 63 #[.slice a xs.length cap] w fun e w' => e = .returned (.slice (some ⟨w.heap.size, 0, none⟩) xs.length xs.length) ∧ StrRow w' w.heap.size 0 xs ∧ w.heap.size < w'.heap.size ∧ Below w.heap.size w w' ∧ Room w' w.heap.size xs.length := by
  obtain ⟨i0, hi, hz0, hz1, hz2⟩ := info_parts info9
  go_enter Try.func63, Try.ntmps63
  go_wp2_with (first | (refine wpList_make_full _ rfl _ _ 26 rfl w.heap.size 9 i0 _ 1 Try.underlying26 hi hz0 hz1 .i64 .i64 _ _ xs.length rfl rfl rfl rfl ?m1 ?m2 (Nat.le_refl _) ?_))
  case m1 => rw [hz2]; omega
  case m2 => unfold maxLen; omega
  intro w1 hown hgrow
  have hroom := room_own hown
  have hbel : Below w.heap.size w w1 := (Below.refl _ _).grown hgrow (Nat.le_refl _) (fun k hk => by cases hk)
  have hsz : w.heap.size < w1.heap.size := own_size hown
  clear hown hgrow hi hz0 hz1 hz2
  go_wp2_with fail
  go_loopw [4] (fun i wr => ∃ k : Nat, k ≤ xs.length ∧ i = .int .i64 k ∧ Below w.heap.size w wr ∧ Room wr w.heap.size xs.length ∧ w.heap.size < wr.heap.size ∧ (∀ j (h : j < xs.length), j < k → wr.cell? ⟨w.heap.size, j, none⟩ = some (.string xs[j]))) (fun i _ => xs.length - (intOf i).toNat)
  case atStart => exact ⟨0, Nat.zero_le _, rfl, hbel, hroom, hsz, fun j _ h => absurd h (by omega)⟩
  case round =>
    clear hbel hroom hsz
    obtain ⟨k, hk, rfl, hbw, hroom, hsz, hdone⟩ := hrel
    have HD : Hid _ := hdone
    have HR : Hid _ := hroom
    clear hdone
    by_cases hlt : k < xs.length
    · have hlt' : (k : Int) < (xs.length : Int) := by omega
      obtain ⟨b, p, rfl, hb, hc⟩ := (hA.below hbw (Nat.le_refl _)).at k hlt
      obtain ⟨x, hx⟩ : ∃ x, x = xs[k] := ⟨_, rfl⟩
      have HX : Hid _ := hx
      rw [← hx] at hc
      clear hx
      obtain ⟨⟨u0, g0⟩, z0⟩ := hroom k hlt
      clear hroom
      go_wp2_with fail
      refine ⟨⟨k + 1, by omega, by go_num, hbw.setCell (Nat.le_refl _) _, Room.set HR.out _ _, by simpa using hsz, ?_⟩, by simp [intOf]; omega⟩
      intro j h hj
      by_cases hjk : j < k
      · rw [World.cell?_setCell_other]; · exact HD.out j h hjk
        intro e; simp at e; try omega
      · obtain rfl : j = k := by omega
        rw [← HX.out]
        exact World.cell?_setCell_same _ _ _ g0
    · obtain rfl : k = xs.length := by omega
      go_wp2_with fail
      go_ret
      exact ⟨rfl, fun j h => by rw [Nat.zero_add]; exact HD.out j h h, hsz, hbw, HR.out⟩

set_option maxRecDepth 100000 in
set_option maxHeartbeats 2000000 in
theorem f11r (k s r : Int) (ks : List Int) (vs : List ByteArray) (a b : Option Addr) (c d : Nat) (w : World) (hA : ArgI w a ks) (hB : ArgS w b vs) (hk : ks.length ≤ 1048576) (hv : vs.length ≤ 1048576) :
    Calls Try.prog 28 #[.agg #[.int .i64 k, .int .i64 s, .int .i64 r, .slice a ks.length c, .slice b vs.length d]] w fun e w' => ∃ g1 g2 : Nat, e = .returned (.agg #[.int .i64 k, .int .i64 s, .int .i64 r, .slice (some ⟨g1, 0, none⟩) ks.length ks.length, .slice (some ⟨g2, 0, none⟩) vs.length vs.length]) ∧ IntRow w' g1 0 ks ∧ StrRow w' g2 0 vs ∧ w.heap.size ≤ g1 ∧ w.heap.size ≤ g2 ∧ g1 < w'.heap.size ∧ g2 < w'.heap.size ∧ g1 ≠ g2 ∧ Below w.heap.size w w' ∧ Room w' g1 ks.length ∧ Room w' g2 vs.length := by
  have HA : Hid _ := hA
  have HB : Hid _ := hB
  clear hA hB
  go_enter Try.func28, Try.ntmps28
  go_wp2_with fail
  have c0 : ∀ X Y Z, Below w.heap.size w (((w.alloc X).alloc Y).alloc Z) := fun X Y Z => (((Below.refl _ _).alloc (Nat.le_refl _) _).alloc (by simp) _).alloc (by simp; omega) _
  refine (f29r ks _ _ _ (ArgI.below HA.out (c0 _ _ _) (Nat.le_refl _)) hk).mono ?_
  rintro e w1 ⟨rfl, hr1, hs1, hb1, hR1⟩
  have HR1 : Hid (Room w1 (((w.alloc _).alloc _).alloc _).heap.size ks.length) := hR1
  clear hR1
  obtain ⟨hc1, hf1⟩ := bcell hb1
  have e1 := hb1.size
  simp only [World.size_alloc] at e1 hs1
  have hz1 : w.heap.size + 1 + 1 < w1.heap.size := by omega
  have hz1' : w.heap.size + 1 < w1.heap.size := by omega
  have hz1'' : w.heap.size < w1.heap.size := by omega
  have c1 : Below w.heap.size w w1 := (c0 _ _ _).trans (hb1.mono (by simp; omega))
  go_wp2_with fail
  have c1' := c1.setCell (p := ⟨w.heap.size + 1 + 1, 3, none⟩) (show w.heap.size ≤ w.heap.size + 1 + 1 from by omega) (Value.slice (some ⟨w.heap.size + 1 + 1 + 1, 0, none⟩) ks.length ks.length)
  refine (f30r vs _ _ _ (ArgS.below HB.out c1' (Nat.le_refl _)) hv).mono ?_
  rintro e w2 ⟨rfl, hr2, hs2, hb2, hR2⟩
  have HR2 : Hid (Room w2 _ vs.length) := hR2
  clear hR2
  obtain ⟨hc2, hf2⟩ := bcell hb2
  have e2 := hb2.size
  simp only [World.size_setCell] at e2 hs2 hc2 hf2
  have hz2 : w.heap.size + 1 + 1 < w2.heap.size := by omega
  have hz2' : w.heap.size + 1 < w2.heap.size := by omega
  have hz2'' : w.heap.size < w2.heap.size := by omega
  go_wp2_with fail
  have q : ∀ j, j < 5 → ∃ u, w2.cell? ⟨w.heap.size + 1, j, none⟩ = some u := by
    intro j hj
    rw [hc2 _ _ (by omega), World.cell?_setCell_other _ _ _ _ (by simp), hc1 _ _ (by simp)]
    rcases (by omega : j = 0 ∨ j = 1 ∨ j = 2 ∨ j = 3 ∨ j = 4) with rfl | rfl | rfl | rfl | rfl <;> simp [go_sem]
  obtain ⟨u0, q0⟩ := q 0 (by omega)
  obtain ⟨u1, q1⟩ := q 1 (by omega)
  obtain ⟨u2, q2⟩ := q 2 (by omega)
  obtain ⟨u3, q3⟩ := q 3 (by omega)
  obtain ⟨u4, q4⟩ := q 4 (by omega)
  simp only [World.size_alloc] at hr1
  simp only [World.size_setCell] at hr2
  have r1 : IntRow w2 (w.heap.size + 1 + 1 + 1) 0 ks := (hr1.set _ _ (by simp)).below hb2 (by simp; omega)
  have c2 : Below w.heap.size w w2 := c1'.trans (hb2.mono (by simp; omega))
  refine bodyPost_ret (v := .agg #[.int .i64 k, .int .i64 s, .int .i64 r, .slice (some ⟨w.heap.size + 1 + 1 + 1, 0, none⟩) ks.length ks.length, .slice (some ⟨w1.heap.size, 0, none⟩) vs.length vs.length]) (by simp [results, Try.results28, go_sem, q0, q1, q2, q3, q4]) rfl ⟨w.heap.size + 1 + 1 + 1, w1.heap.size, rfl, ?_, ?_, by omega, by omega, by simp; omega, by simp; omega, by omega, ?_, ?_, ?_⟩
  · exact (((((r1.set _ _ (by simp)).set _ _ (by simp)).set _ _ (by simp)).set _ _ (by simp)).set _ _ (by simp)).set _ _ (by simp)
  · exact (((((hr2.set _ _ (by simp; omega)).set _ _ (by simp; omega)).set _ _ (by simp; omega)).set _ _ (by simp; omega)).set _ _ (by simp; omega)).set _ _ (by simp; omega)
  · exact (((((c2.setCell (by simp; omega) _).setCell (by simp) _).setCell (by simp) _).setCell (by simp) _).setCell (by simp) _).setCell (by simp) _
  · have h0 := HR1.out
    simp only [World.size_alloc] at h0
    exact (((((((Room.set h0 _ _).below hb2 (by simp; omega)).set _ _).set _ _).set _ _).set _ _).set _ _).set _ _
  · have h0 := HR2.out
    simp only [World.size_setCell] at h0
    exact (((((Room.set h0 _ _).set _ _).set _ _).set _ _).set _ _).set _ _

/-- Block B holds a table of type t. -/
def B5 (t : TypeId) (W : World) (B : Nat) (k s r : Int) (v u : Value) : Prop := W.heap[B]? = some (.cells #[.int .i64 k, .int .i64 s, .int .i64 r, v, u] t (0, 0))
theorem B5.new (W : World) (t : TypeId) (k s r : Int) (v u : Value) : B5 t (W.alloc (.cells #[.int .i64 k, .int .i64 s, .int .i64 r, v, u] t)) W.heap.size k s r v u := World.alloc_heap_new W _
theorem B5.lt {t : TypeId} {W : World} {B : Nat} {k s r : Int} {v u : Value} (h : B5 t W B k s r v u) : B < W.heap.size := (Array.getElem?_eq_some_iff.1 h).1
theorem B5.cells {t : TypeId} {W : World} {B : Nat} {k s r : Int} {v u : Value} (h : B5 t W B k s r v u) : W.cell? ⟨B, 0, none⟩ = some (.int .i64 k) ∧ W.cell? ⟨B, 1, none⟩ = some (.int .i64 s) ∧ W.cell? ⟨B, 2, none⟩ = some (.int .i64 r) ∧ W.cell? ⟨B, 3, none⟩ = some v ∧ W.cell? ⟨B, 4, none⟩ = some u := by simp [World.cell?, show W.heap[B]? = _ from h]
theorem B5.exc {S : Nat → Prop} {t : TypeId} {W W' : World} {B : Nat} {k s r : Int} {v u : Value} (h : B5 t W B k s r v u) (he : Exc S W W') (hs : ¬ S B) : B5 t W' B k s r v u := (he.block B (B5.lt h) hs).trans h
theorem B5.alloc {t : TypeId} {W : World} {B : Nat} {k s r : Int} {v u : Value} (h : B5 t W B k s r v u) (X : Obj) : B5 t (W.alloc X) B k s r v u := B5.exc (S := fun _ => False) h (Exc.of ((Below.refl _ _).alloc (Nat.le_refl _) _)) id
theorem TabP.exc {S : Nat → Prop} {n₀ : Nat} {w w' : World} {ks : List Int} {vs : List ByteArray} {a b : Option Addr} (h : TabP n₀ w ks vs a b) (he : Exc S w w') (hs : ∀ q, isBlk a q ∨ isBlk b q → ¬ S q) : TabP n₀ w' ks vs a b :=
  ⟨h.ints.exc he (fun q hq => hs q (.inl hq)), h.strs.exc he (fun q hq => hs q (.inr hq)), h.wi.exc he (fun q hq => hs q (.inl hq)), h.ws.exc he (fun q hq => hs q (.inr hq)),
   fun q hq => ⟨(h.bi q hq).1, by have := (h.bi q hq).2; have := he.size; omega⟩, fun q hq => ⟨(h.bs q hq).1, by have := (h.bs q hq).2; have := he.size; omega⟩, h.ap⟩
/-- A table that toTable laid. -/
theorem tab_of {n₀ : Nat} {w : World} {ks : List Int} {vs : List ByteArray} {g1 g2 : Nat} (h1 : IntRow w g1 0 ks) (h2 : StrRow w g2 0 vs) (l1 : g1 < w.heap.size) (l2 : g2 < w.heap.size) (m1 : n₀ ≤ g1) (m2 : n₀ ≤ g2) (hne : g1 ≠ g2) (r1 : Room w g1 ks.length) (r2 : Room w g2 vs.length) : TabP n₀ w ks vs (some ⟨g1, 0, none⟩) (some ⟨g2, 0, none⟩) := by
  refine ⟨.inr ⟨g1, 0, rfl, l1, h1⟩, .inr ⟨g2, 0, rfl, l2, h2⟩, .inr ⟨g1, rfl, l1, r1⟩, .inr ⟨g2, rfl, l2, r2⟩, fun q ⟨o, e⟩ => ?_, fun q ⟨o, e⟩ => ?_, fun q ⟨o, e⟩ ⟨o', e'⟩ => ?_⟩
  · simp at e; omega
  · simp at e; omega
  · simp at e e'; omega

end Go.Proofs.Ytahbicegmioplaa
