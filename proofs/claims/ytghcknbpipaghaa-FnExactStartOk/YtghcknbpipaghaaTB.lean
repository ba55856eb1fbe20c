/- Copies of rows and of tables. -/
import Derived.Test.YtghcknbpipaghaaTA
namespace Go.Proofs.Ytghcknbpipaghaa
open Go.RowKit
set_option linter.unusedSimpArgs false

theorem IntRow.set {w : World} {b p : Nat} {xs : List Int} (h : IntRow w b p xs) (a : Addr) (v : Value) (ha : a.block ≠ b) : IntRow (w.setCell a v) b p xs := fun k hk => by
  rw [World.cell?_setCell_other _ _ _ _ (fun e => ha (by rw [e]))]; exact h k hk
theorem StrRow.set {w : World} {b p : Nat} {xs : List ByteArray} (h : StrRow w b p xs) (a : Addr) (v : Value) (ha : a.block ≠ b) : StrRow (w.setCell a v) b p xs := fun k hk => by
  rw [World.cell?_setCell_other _ _ _ _ (fun e => ha (by rw [e]))]; exact h k hk

theorem info3 : (Try.prog.info? 3).map (fun i => (i.zero, i.size, i.bytes)) = some (some (.int .i64 0), 1, 8) := by kernel_rfl
theorem info9 : (Try.prog.info? 9).map (fun i => (i.zero, i.size, i.bytes)) = some (some (.string ⟨#[]⟩), 1, 16) := by kernel_rfl

def Room (w : World) (g m : Nat) : Prop := ∀ j, j < m → (∃ u, w.cell? ⟨g, j, none⟩ = some u) ∧ w.frozen? ⟨g, j, none⟩ = false
theorem Room.below {w w' : World} {g m B : Nat} (h : Room w g m) (hb : Below B w w') (hB : g < B) : Room w' g m := fun j hj => by
  obtain ⟨⟨u, hu⟩, hf⟩ := h j hj
  exact ⟨⟨u, (hb.cell hB).trans hu⟩, (hb.frozen hB).trans hf⟩
theorem Room.set {w : World} {g m : Nat} (h : Room w g m) (a : Addr) (v : Value) : Room (w.setCell a v) g m := fun j hj => by
  obtain ⟨⟨u, hu⟩, hf⟩ := h j hj
  exact ⟨cell?_setCell_some hu, by simpa using hf⟩
theorem room_own {w : World} {base e g n cap : Nat} {xs : List Value} (h : w.ownsRow base e 1 (.slice (some ⟨g, 0, none⟩) n cap) n xs) : Room w g n := fun j hj => by
  have hl := h.1
  refine ⟨⟨xs[j]'(by omega), ?_⟩, h.frozenAt j⟩
  rw [h.cellAt j (by omega), List.getElem?_eq_getElem (by omega)]
theorem own_size {w : World} {base e size g n cap : Nat} {xs : List Value} (h : w.ownsRow base e size (.slice (some ⟨g, 0, none⟩) n cap) n xs) : g < w.heap.size := by
  rcases h.2 with ⟨h', _⟩ | ⟨g', cap', cur, h', _, hg, _⟩
  · simp at h'
  · simp only [Value.slice.injEq, Option.some.injEq, Addr.mk.injEq, and_true, true_and] at h'
    obtain ⟨rfl, rfl⟩ := h'
    exact (Array.getElem?_eq_some_iff.1 hg).1

set_option maxRecDepth 100000 in
set_option maxHeartbeats 2000000 in
theorem f29 (xs : List Int) (a : Option Addr) (cap : Nat) (w : World) (hA : ArgI w a xs) (hn : xs.length ≤ 1048576) :
    Calls Try.prog 15 #[.slice a xs.length cap] w fun e w' => e = .returned (.slice (some ⟨w.heap.size, 0, none⟩) xs.length xs.length) ∧ IntRow w' w.heap.size 0 xs ∧ w.heap.size < w'.heap.size ∧ Below w.heap.size w w' := by
  obtain ⟨i0, hi, hz0, hz1, hz2⟩ := info_parts info3
  go_enter Try.func15, Try.ntmps15
  go_wp2_with (first | (refine wpList_make_full _ rfl _ _ 24 rfl w.heap.size 3 i0 _ 1 Try.underlying24 hi hz0 hz1 .i64 .i64 _ _ xs.length rfl rfl rfl rfl ?m1 ?m2 (Nat.le_refl _) ?_))
  case m1 => rw [hz2]; omega
  case m2 => unfold maxLen; omega
  intro w1 hown hgrow
  have hroom := room_own hown
  have hbel : Below w.heap.size w w1 := (Below.refl _ _).grown hgrow (Nat.le_refl _) (fun k hk => by cases hk)
  have hsz : w.heap.size < w1.heap.size := own_size hown
  clear hown hgrow hi hz0 hz1 hz2
  go_wp2_with fail
  go_loopw [4] (fun i wr => ∃ k : Nat, k ≤ xs.length ∧ i = .int .i64 k ∧ Below w.heap.size w wr ∧ Room wr w.heap.size xs.length ∧ w.heap.size < wr.heap.size ∧ (∀ j (h : j < xs.length), j < k → wr.cell? ⟨w.heap.size, j, none⟩ = some (.int .i64 xs[j]))) (fun i _ => xs.length - (intOf i).toNat)
  case atStart => exact ⟨0, Nat.zero_le _, rfl, hbel, hroom, hsz, fun j _ h => absurd h (by omega)⟩
  case round =>
    clear hbel hroom hsz
    obtain ⟨k, hk, rfl, hbw, hroom, hsz, hdone⟩ := hrel
    have HD : Hid _ := hdone
    have HR : Hid _ := hroom
    clear hdone
    by_cases hlt : k < xs.length
    · have hlt' : (k : Int) < (xs.length : Int) := by omega
      obtain ⟨b, p, rfl, hb, hc⟩ := (hA.below hbw (Nat.le_refl _)).at k hlt
      obtain ⟨x, hx⟩ : ∃ x, x = xs[k] := ⟨_, rfl⟩
      have HX : Hid _ := hx
      rw [← hx] at hc
      clear hx
      obtain ⟨⟨u0, g0⟩, z0⟩ := hroom k hlt
      clear hroom
      go_wp2_with fail
      refine ⟨⟨k + 1, by omega, by go_num, hbw.setCell (Nat.le_refl _) _, Room.set HR.out _ _, by simpa using hsz, ?_⟩, by simp [intOf]; omega⟩
      intro j h hj
      by_cases hjk : j < k
      · rw [World.cell?_setCell_other]; · exact HD.out j h hjk
        intro e; simp at e; try omega
      · obtain rfl : j = k := by omega
        rw [← HX.out]
        exact World.cell?_setCell_same _ _ _ g0
    · obtain rfl : k = xs.length := by omega
      go_wp2_with fail
      go_ret
      exact ⟨rfl, fun j h => by rw [Nat.zero_add]; exact HD.out j h h, hsz, hbw⟩

set_option maxRecDepth 100000 in
set_option maxHeartbeats 2000000 in
theorem f30 (xs : List ByteArray) (a : Option Addr) (cap : Nat) (w : World) (hA : ArgS w a xs) (hn : xs.length ≤ 1048576) :
    Calls Try.prog 41 #[.slice a xs.length cap] w fun e w' => e = .returned (.slice (some ⟨w.heap.size, 0, none⟩) xs.length xs.length) ∧ StrRow w' w.heap.size 0 xs ∧ w.heap.size < w'.heap.size ∧ Below w.heap.size w w' := by
  obtain ⟨i0, hi, hz0, hz1, hz2⟩ := info_parts info9
  go_enter Try.func41, Try.ntmps41
  go_wp2_with (first | (refine wpList_make_full _ rfl _ _ 49 rfl w.heap.size 9 i0 _ 1 Try.underlying49 hi hz0 hz1 .i64 .i64 _ _ xs.length rfl rfl rfl rfl ?m1 ?m2 (Nat.le_refl _) ?_))
  case m1 => rw [hz2]; omega
  case m2 => unfold maxLen; omega
  intro w1 hown hgrow
  have hroom := room_own hown
  have hbel : Below w.heap.size w w1 := (Below.refl _ _).grown hgrow (Nat.le_refl _) (fun k hk => by cases hk)
  have hsz : w.heap.size < w1.heap.size := own_size hown
  clear hown hgrow hi hz0 hz1 hz2
  go_wp2_with fail
  go_loopw [4] (fun i wr => ∃ k : Nat, k ≤ xs.length ∧ i = .int .i64 k ∧ Below w.heap.size w wr ∧ Room wr w.heap.size xs.length ∧ w.heap.size < wr.heap.size ∧ (∀ j (h : j < xs.length), j < k → wr.cell? ⟨w.heap.size, j, none⟩ = some (.string xs[j]))) (fun i _ => xs.length - (intOf i).toNat)
  case atStart => exact ⟨0, Nat.zero_le _, rfl, hbel, hroom, hsz, fun j _ h => absurd h (by omega)⟩
  case round =>
    clear hbel hroom hsz
    obtain ⟨k, hk, rfl, hbw, hroom, hsz, hdone⟩ := hrel
    have HD : Hid _ := hdone
    have HR : Hid _ := hroom
    clear hdone
    by_cases hlt : k < xs.length
    · have hlt' : (k : Int) < (xs.length : Int) := by omega
      obtain ⟨b, p, rfl, hb, hc⟩ := (hA.below hbw (Nat.le_refl _)).at k hlt
      obtain ⟨x, hx⟩ : ∃ x, x = xs[k] := ⟨_, rfl⟩
      have HX : Hid _ := hx
      rw [← hx] at hc
      clear hx
      obtain ⟨⟨u0, g0⟩, z0⟩ := hroom k hlt
      clear hroom
      go_wp2_with fail
      refine ⟨⟨k + 1, by omega, by go_num, hbw.setCell (Nat.le_refl _) _, Room.set HR.out _ _, by simpa using hsz, ?_⟩, by simp [intOf]; omega⟩
      intro j h hj
      by_cases hjk : j < k
      · rw [World.cell?_setCell_other]; · exact HD.out j h hjk
        intro e; simp at e; try omega
      · obtain rfl : j = k := by omega
        rw [← HX.out]
        exact World.cell?_setCell_same _ _ _ g0
    · obtain rfl : k = xs.length := by omega
      go_wp2_with fail
      go_ret
      exact ⟨rfl, fun j h => by rw [Nat.zero_add]; exact HD.out j h h, hsz, hbw⟩

/-- A table as a value: its numbers, its keys, its values. -/
def TV (k s r : Int) (a : Option Addr) (n c : Nat) (b : Option Addr) (m d : Nat) : Value := .agg #[.int .i64 k, .int .i64 s, .int .i64 r, .slice a n c, .slice b m d]

set_option maxRecDepth 100000 in
set_option maxHeartbeats 2000000 in
theorem f9 (k s r : Int) (ks : List Int) (vs : List ByteArray) (a b : Option Addr) (c d : Nat) (w : World) (hB : ArgS w b vs) (hm : ks.length ≤ maxLen) (hm2 : vs.length ≤ maxLen) (hss : ∀ s ∈ vs, s.size ≤ maxLen) :
    Calls Try.prog 22 #[.agg #[.int .i64 k, .int .i64 s, .int .i64 r, .slice a ks.length c, .slice b vs.length d], .int .i64 1048576] w fun e w' => (∃ q : Int, e = .returned (.int .i64 q) ∧ (q = -1 ∨ ks.length ≤ 1048576 ∧ vs.length ≤ 1048576 ∧ 0 ≤ q)) ∧ Below w.heap.size w w' := by
  have HB : Hid _ := hB
  clear hB
  go_enter Try.func22, Try.ntmps22
  go_wp2_with fail
  refine (f26 _ _ _ _ hm).mono ?_
  rintro e w1 ⟨⟨q, rfl, hq⟩, rfl⟩
  rcases hq with rfl | ⟨hk, hq0, hq1⟩
  · go_wp2_with fail
    go_ret
    exact ⟨⟨_, rfl, .inl rfl⟩, (Below.refl _ _).alloc (Nat.le_refl _) _⟩
  · go_wp2_with fail
    refine (f27 _ vs _ _ _ hq0 hq1 (ArgS.below HB.out ((Below.refl _ _).alloc (Nat.le_refl _) _) (Nat.le_refl _)) hm2 hss).mono ?_
    rintro e w2 ⟨⟨q2, rfl, hq2⟩, rfl⟩
    rcases hq2 with rfl | ⟨hk2, hq20⟩
    · go_wp2_with fail
      go_ret
      exact ⟨⟨_, rfl, .inl rfl⟩, (Below.refl _ _).alloc (Nat.le_refl _) _⟩
    · go_wp2_with fail
      go_ret
      exact ⟨⟨_, rfl, .inr ⟨hk, hk2, hq20⟩⟩, (Below.refl _ _).alloc (Nat.le_refl _) _⟩

set_option maxRecDepth 100000 in
set_option maxHeartbeats 2000000 in
theorem f11 (k s r : Int) (ks : List Int) (vs : List ByteArray) (a b : Option Addr) (c d : Nat) (w : World) (hA : ArgI w a ks) (hB : ArgS w b vs) (hk : ks.length ≤ 1048576) (hv : vs.length ≤ 1048576) :
    Calls Try.prog 28 #[.agg #[.int .i64 k, .int .i64 s, .int .i64 r, .slice a ks.length c, .slice b vs.length d]] w fun e w' => ∃ g1 g2 : Nat, e = .returned (.agg #[.int .i64 k, .int .i64 s, .int .i64 r, .slice (some ⟨g1, 0, none⟩) ks.length ks.length, .slice (some ⟨g2, 0, none⟩) vs.length vs.length]) ∧ IntRow w' g1 0 ks ∧ StrRow w' g2 0 vs ∧ w.heap.size ≤ g1 ∧ w.heap.size ≤ g2 ∧ g1 < w'.heap.size ∧ g2 < w'.heap.size ∧ g1 ≠ g2 ∧ Below w.heap.size w w' := by
  have HA : Hid _ := hA
  have HB : Hid _ := hB
  clear hA hB
  go_enter Try.func28, Try.ntmps28
  go_wp2_with fail
  have c0 : ∀ X Y Z, Below w.heap.size w (((w.alloc X).alloc Y).alloc Z) := fun X Y Z => (((Below.refl _ _).alloc (Nat.le_refl _) _).alloc (by simp) _).alloc (by simp; omega) _
  refine (f29 ks _ _ _ (ArgI.below HA.out (c0 _ _ _) (Nat.le_refl _)) hk).mono ?_
  rintro e w1 ⟨rfl, hr1, hs1, hb1⟩
  obtain ⟨hc1, hf1⟩ := bcell hb1
  have e1 := hb1.size
  simp only [World.size_alloc] at e1 hs1
  have hz1 : w.heap.size + 1 + 1 < w1.heap.size := by omega
  have hz1' : w.heap.size + 1 < w1.heap.size := by omega
  have hz1'' : w.heap.size < w1.heap.size := by omega
  have c1 : Below w.heap.size w w1 := (c0 _ _ _).trans (hb1.mono (by simp; omega))
  go_wp2_with fail
  have c1' := c1.setCell (p := ⟨w.heap.size + 1 + 1, 3, none⟩) (show w.heap.size ≤ w.heap.size + 1 + 1 from by omega) (Value.slice (some ⟨w.heap.size + 1 + 1 + 1, 0, none⟩) ks.length ks.length)
  refine (f30 vs _ _ _ (ArgS.below HB.out c1' (Nat.le_refl _)) hv).mono ?_
  rintro e w2 ⟨rfl, hr2, hs2, hb2⟩
  obtain ⟨hc2, hf2⟩ := bcell hb2
  have e2 := hb2.size
  simp only [World.size_setCell] at e2 hs2 hc2 hf2
  have hz2 : w.heap.size + 1 + 1 < w2.heap.size := by omega
  have hz2' : w.heap.size + 1 < w2.heap.size := by omega
  have hz2'' : w.heap.size < w2.heap.size := by omega
  go_wp2_with fail
  have q : ∀ j, j < 5 → ∃ u, w2.cell? ⟨w.heap.size + 1, j, none⟩ = some u := by
    intro j hj
    rw [hc2 _ _ (by omega), World.cell?_setCell_other _ _ _ _ (by simp), hc1 _ _ (by simp)]
    rcases (by omega : j = 0 ∨ j = 1 ∨ j = 2 ∨ j = 3 ∨ j = 4) with rfl | rfl | rfl | rfl | rfl <;> simp [go_sem]
  obtain ⟨u0, q0⟩ := q 0 (by omega)
  obtain ⟨u1, q1⟩ := q 1 (by omega)
  obtain ⟨u2, q2⟩ := q 2 (by omega)
  obtain ⟨u3, q3⟩ := q 3 (by omega)
  obtain ⟨u4, q4⟩ := q 4 (by omega)
  simp only [World.size_alloc] at hr1
  simp only [World.size_setCell] at hr2
  have r1 : IntRow w2 (w.heap.size + 1 + 1 + 1) 0 ks := (hr1.set _ _ (by simp)).below hb2 (by simp; omega)
  have c2 : Below w.heap.size w w2 := c1'.trans (hb2.mono (by simp; omega))
  refine bodyPost_ret (v := .agg #[.int .i64 k, .int .i64 s, .int .i64 r, .slice (some ⟨w.heap.size + 1 + 1 + 1, 0, none⟩) ks.length ks.length, .slice (some ⟨w1.heap.size, 0, none⟩) vs.length vs.length]) (by simp [results, Try.results28, go_sem, q0, q1, q2, q3, q4]) rfl ⟨w.heap.size + 1 + 1 + 1, w1.heap.size, rfl, ?_, ?_, by omega, by omega, by simp; omega, by simp; omega, by omega, ?_⟩
  · exact (((((r1.set _ _ (by simp)).set _ _ (by simp)).set _ _ (by simp)).set _ _ (by simp)).set _ _ (by simp)).set _ _ (by simp)
  · exact (((((hr2.set _ _ (by simp; omega)).set _ _ (by simp; omega)).set _ _ (by simp; omega)).set _ _ (by simp; omega)).set _ _ (by simp; omega)).set _ _ (by simp; omega)
  · exact (((((c2.setCell (by simp; omega) _).setCell (by simp) _).setCell (by simp) _).setCell (by simp) _).setCell (by simp) _).setCell (by simp) _

end Go.Proofs.Ytghcknbpipaghaa
