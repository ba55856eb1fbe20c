/- toInsS: a new list of the same ops. -/
import Derived.Test.YtghcknbpipaghaaForm2
namespace Go.Proofs.Ytghcknbpipaghaa.Q
open Go.RowKit
set_option linter.unusedSimpArgs false

theorem info25 : (Try.prog.info? 57).map (fun i => (i.zero, i.size, i.bytes)) = some (some (.agg #[.int .i64 0, .int .i64 0, .int .i64 0, .int .i64 0, .int .i64 0, .int .i64 0]), 6, 48) := by kernel_rfl

/-- The first 'm' cells of block 'g' are there, and may be written. -/
def Room (w : World) (g m : Nat) : Prop := ∀ j, j < m → (∃ u, w.cell? ⟨g, j, none⟩ = some u) ∧ w.frozen? ⟨g, j, none⟩ = false
theorem Room.below {w w' : World} {g m B : Nat} (h : Room w g m) (hb : Below B w w') (hB : g < B) : Room w' g m := fun j hj => by
  obtain ⟨⟨u, hu⟩, hf⟩ := h j hj
  exact ⟨⟨u, (hb.cell hB).trans hu⟩, (hb.frozen hB).trans hf⟩
theorem Room.set {w : World} {g m : Nat} (h : Room w g m) (a : Addr) (v : Value) : Room (w.setCell a v) g m := fun j hj => by
  obtain ⟨⟨u, hu⟩, hf⟩ := h j hj
  exact ⟨cell?_setCell_some hu, by simpa using hf⟩
/-- An op stored at offset 'q' of block 'g'. -/
def st6 (w : World) (g q : Nat) (x : I6) : World :=
  (((((w.setCell ⟨g, q, none⟩ (.int .i64 x.o)).setCell ⟨g, q + 1, none⟩ (.int .i64 x.d)).setCell ⟨g, q + 2, none⟩ (.int .i64 x.s)).setCell ⟨g, q + 3, none⟩ (.int .i64 x.f)).setCell ⟨g, q + 4, none⟩ (.int .i64 x.i)).setCell ⟨g, q + 5, none⟩ (.int .i64 x.z)
theorem st6_room {w : World} {g m q : Nat} {x : I6} (h : Room w g m) : Room (st6 w g q x) g m := (((((h.set _ _).set _ _).set _ _).set _ _).set _ _).set _ _
theorem st6_other {w : World} {g q : Nat} {x : I6} {r : Nat} (h : r < q ∨ q + 5 < r) : (st6 w g q x).cell? ⟨g, r, none⟩ = w.cell? ⟨g, r, none⟩ := by
  unfold st6
  rw [World.cell?_setCell_other, World.cell?_setCell_other, World.cell?_setCell_other, World.cell?_setCell_other, World.cell?_setCell_other, World.cell?_setCell_other]
  all_goals (intro h'; simp at h'; try omega)
theorem st6_below {w w' : World} {g q B : Nat} {x : I6} (h : Below B w w') (hB : B ≤ g) : Below B w (st6 w' g q x) :=
  (((((h.setCell hB _).setCell hB _).setCell hB _).setCell hB _).setCell hB _).setCell hB _
theorem st6_at {w : World} {g q m : Nat} {x : I6} (h : Room w g m) (hq : q + 6 ≤ m) : InsAt (st6 w g q x) g q x := by
  have r0 := h
  have r1 := r0.set ⟨g, q, none⟩ (.int .i64 x.o)
  have r2 := r1.set ⟨g, q + 1, none⟩ (.int .i64 x.d)
  have r3 := r2.set ⟨g, q + 2, none⟩ (.int .i64 x.s)
  have r4 := r3.set ⟨g, q + 3, none⟩ (.int .i64 x.f)
  have r5 := r4.set ⟨g, q + 4, none⟩ (.int .i64 x.i)
  obtain ⟨⟨u0, k0⟩, _⟩ := r0 q (by omega)
  obtain ⟨⟨u1, k1⟩, _⟩ := r1 (q + 1) (by omega)
  obtain ⟨⟨u2, k2⟩, _⟩ := r2 (q + 2) (by omega)
  obtain ⟨⟨u3, k3⟩, _⟩ := r3 (q + 3) (by omega)
  obtain ⟨⟨u4, k4⟩, _⟩ := r4 (q + 4) (by omega)
  obtain ⟨⟨u5, k5⟩, _⟩ := r5 (q + 5) (by omega)
  unfold st6
  refine ⟨?_, ?_, ?_, ?_, ?_, ?_⟩
  · rw [World.cell?_setCell_other, World.cell?_setCell_other, World.cell?_setCell_other, World.cell?_setCell_other, World.cell?_setCell_other]
    · exact World.cell?_setCell_same _ _ _ k0
    all_goals simp
  · rw [World.cell?_setCell_other, World.cell?_setCell_other, World.cell?_setCell_other, World.cell?_setCell_other]
    · exact World.cell?_setCell_same _ _ _ k1
    all_goals simp
  · rw [World.cell?_setCell_other, World.cell?_setCell_other, World.cell?_setCell_other]
    · exact World.cell?_setCell_same _ _ _ k2
    all_goals simp
  · rw [World.cell?_setCell_other, World.cell?_setCell_other]
    · exact World.cell?_setCell_same _ _ _ k3
    all_goals simp
  · rw [World.cell?_setCell_other]
    · exact World.cell?_setCell_same _ _ _ k4
    all_goals simp
  · exact World.cell?_setCell_same _ _ _ k5
theorem InsAt.st6 {w : World} {g q r : Nat} {x y : I6} (h : InsAt w g r y) (hr : r + 6 ≤ q) : InsAt (st6 w g q x) g r y := by
  obtain ⟨h0, h1, h2, h3, h4, h5⟩ := h
  exact ⟨(st6_other (by omega)).trans h0, (st6_other (by omega)).trans h1, (st6_other (by omega)).trans h2, (st6_other (by omega)).trans h3, (st6_other (by omega)).trans h4, (st6_other (by omega)).trans h5⟩
theorem st6_size {w : World} {g q : Nat} {x : I6} : (st6 w g q x).heap.size = w.heap.size := by simp [Go.Proofs.Ytghcknbpipaghaa.Q.st6]
theorem room_own {w : World} {base e g n cap : Nat} {xs : List Value} (h : w.ownsRow base e 6 (.slice (some ⟨g, 0, none⟩) n cap) n xs) : Room w g (n * 6) := fun j hj => by
  have hl := h.1
  refine ⟨⟨xs[j]'(by omega), ?_⟩, h.frozenAt j⟩
  rw [h.cellAt j hj, List.getElem?_eq_getElem (by omega)]

set_option maxRecDepth 100000 in
set_option maxHeartbeats 2000000 in
theorem f19 (xs : List I6) (b p cap : Nat) (w : World) (hr : InsRow w b p xs) (hn : xs.length ≤ 1048576) (hb : b < w.heap.size) :
    Calls Try.prog 13 #[.slice (some ⟨b, p, none⟩) xs.length cap] w fun e w' => e = .returned (.slice (some ⟨w.heap.size, 0, none⟩) xs.length xs.length) ∧ InsRow w' w.heap.size 0 xs ∧ w.heap.size < w'.heap.size ∧ Below w.heap.size w w' := by
  obtain ⟨i0, hi, hz0, hz1, hz2⟩ := info_parts info25
  go_enter Try.func13, Try.ntmps13
  go_wp2_with (first | (refine wpList_make_full _ rfl _ _ 29 rfl w.heap.size 57 i0 _ 6 Try.underlying29 hi hz0 hz1 .i64 .i64 _ _ xs.length rfl rfl rfl rfl ?m1 ?m2 (Nat.le_refl _) ?_))
  case m1 => rw [hz2]; omega
  case m2 => unfold maxLen; omega
  intro w1 hown hgrow
  have hroom := room_own hown
  have hbel : Below w.heap.size w w1 := (Below.refl _ _).grown hgrow (Nat.le_refl _) (fun k hk => by cases hk)
  have hsz : w.heap.size < w1.heap.size := by
    rcases hown.2 with ⟨h', _⟩ | ⟨g', cap', cur, h', _, hg, _⟩
    · simp at h'
    · simp only [Value.slice.injEq, Option.some.injEq, Addr.mk.injEq, and_true, true_and] at h'
      obtain ⟨rfl, rfl⟩ := h'
      exact (Array.getElem?_eq_some_iff.1 hg).1
  clear hown hgrow hi hz0 hz1 hz2
  go_wp2_with fail
  go_loopw [4] (fun i wr => ∃ k : Nat, k ≤ xs.length ∧ i = .int .i64 k ∧ Below w.heap.size w wr ∧ Room wr w.heap.size (xs.length * 6) ∧ w.heap.size < wr.heap.size ∧ (∀ j (h : j < xs.length), j < k → InsAt wr w.heap.size (j * 6) xs[j])) (fun i _ => xs.length - (intOf i).toNat)
  case atStart => exact ⟨0, Nat.zero_le _, rfl, hbel, hroom, hsz, fun j _ h => absurd h (by omega)⟩
  case round =>
    clear hbel hroom hsz
    obtain ⟨k, hk, rfl, hbw, hroom, hsz, hdone⟩ := hrel
    have HD : Hid _ := hdone
    have HR : Hid _ := hroom
    clear hdone
    have hzw : b < wr.heap.size := by have := hbw.size; omega
    by_cases hlt : k < xs.length
    · have hlt' : (k : Int) < (xs.length : Int) := by omega
      obtain ⟨x, hx⟩ : ∃ x, x = xs[k] := ⟨_, rfl⟩
      have HX : Hid _ := hx
      obtain ⟨h0, h1, h2, h3, h4, h5⟩ := (hr k hlt).below hbw hb
      rw [← hx] at h0 h1 h2 h3 h4 h5
      clear hx
      obtain ⟨⟨u0, g0⟩, z0⟩ := hroom (k * 6) (by omega)
      obtain ⟨⟨u1, g1⟩, z1⟩ := hroom (k * 6 + 1) (by omega)
      obtain ⟨⟨u2, g2⟩, z2⟩ := hroom (k * 6 + 2) (by omega)
      obtain ⟨⟨u3, g3⟩, z3⟩ := hroom (k * 6 + 3) (by omega)
      obtain ⟨⟨u4, g4⟩, z4⟩ := hroom (k * 6 + 4) (by omega)
      obtain ⟨⟨u5, g5⟩, z5⟩ := hroom (k * 6 + 5) (by omega)
      clear hroom
      go_wp2_with fail
      refine (f10 _ _ _ _ _ _ _).mono ?_
      rintro e w2 ⟨rfl, hb2⟩
      obtain ⟨hc2, hf2⟩ := bcell hb2
      go_wp2_with fail
      have c2 : Below w.heap.size w w2 := hbw.trans (hb2.mono hbw.size)
      have r2 : Room w2 w.heap.size (xs.length * 6) := Room.below HR.out hb2 hsz
      have hs2 : w.heap.size < w2.heap.size := by have := hb2.size; omega
      refine ⟨⟨k + 1, by omega, by go_num, st6_below (g := w.heap.size) (q := k * 6) (x := x) c2 (Nat.le_refl _), st6_room (q := k * 6) (x := x) r2, by simpa using hs2, ?_⟩, by simp [intOf]; omega⟩
      intro j h hj
      by_cases hjk : j < k
      · exact InsAt.st6 (q := k * 6) (x := x) ((HD.out j h hjk).below hb2 hsz) (by omega)
      · obtain rfl : j = k := by omega
        rw [← HX.out]
        exact st6_at r2 (by omega)
    · obtain rfl : k = xs.length := by omega
      go_wp2_with fail
      go_ret
      exact ⟨rfl, fun j h => by rw [Nat.zero_add]; exact HD.out j h h, hsz, hbw⟩
end Go.Proofs.Ytghcknbpipaghaa.Q
