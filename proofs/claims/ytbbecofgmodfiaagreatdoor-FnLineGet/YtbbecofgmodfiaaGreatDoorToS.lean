/- toInsS: a new list of the same ops. -/
import Derived.Test.YtbbecofgmodfiaaGreatDoorForm2
namespace Go.Proofs.YtbbecofgmodfiaaGreatDoor
open Go.RowKit
set_option linter.unusedSimpArgs false

theorem info25 : (Tryz.prog.info? 24).map (fun i => (i.zero, i.size, i.bytes)) = some (some (.agg #[.int .i64 0, .int .i64 0, .int .i64 0, .int .i64 0, .int .i64 0, .int .i64 0]), 6, 48) := by kernel_rfl

/-- The first 'm' cells of block 'g' are there, and may be written. -/
def Room (w : World) (g m : Nat) : Prop := ∀ j, j < m → (∃ u, w.cell? ⟨g, j, none⟩ = some u) ∧ w.frozen? ⟨g, j, none⟩ = false
theorem Room.below {w w' : World} {g m B : Nat} (h : Room w g m) (hb : Below B w w') (hB : g < B) : Room w' g m := fun j hj => by
  obtain ⟨⟨u, hu⟩, hf⟩ := h j hj
  exact ⟨⟨u, (hb.cell hB).trans hu⟩, (hb.frozen hB).trans hf⟩
theorem Room.set {w : World} {g m : Nat} (h : Room w g m) (a : Addr) (v : Value) : Room (w.setCell a v) g m := fun j hj => by
  obtain ⟨⟨u, hu⟩, hf⟩ := h j hj
  exact ⟨cell?_setCell_some hu, by simpa using hf⟩
/-- An op stored at offset 'q' of block 'g'. -/
def st6 (w : World) (g q : Nat) (x : I6) : World :=
  (((((w.setCell ⟨g, q, none⟩ (.int .i64 x.o)).setCell ⟨g, q + 1, none⟩ (.int .i64 x.d)).setCell ⟨g, q + 2, none⟩ (.int .i64 x.s)).setCell ⟨g, q + 3, none⟩ (.int .i64 x.f)).setCell ⟨g, q + 4, none⟩ (.int .i64 x.i)).setCell ⟨g, q + 5, none⟩ (.int .i64 x.z)
theorem st6_room {w : World} {g m q : Nat} {x : I6} (h : Room w g m) : Room (st6 w g q x) g m := (((((h.set _ _).set _ _).set _ _).set _ _).set _ _).set _ _
theorem st6_other {w : World} {g q : Nat} {x : I6} {r : Nat} (h : r < q ∨ q + 5 < r) : (st6 w g q x).cell? ⟨g, r, none⟩ = w.cell? ⟨g, r, none⟩ := by
  unfold st6
  rw [World.cell?_setCell_other, World.cell?_setCell_other, World.cell?_setCell_other, World.cell?_setCell_other, World.cell?_setCell_other, World.cell?_setCell_other]
  all_goals (intro h'; simp at h'; try omega)
theorem st6_below {w w' : World} {g q B : Nat} {x : I6} (h : Below B w w') (hB : B ≤ g) : Below B w (st6 w' g q x) :=
  (((((h.setCell hB _).setCell hB _).setCell hB _).setCell hB _).setCell hB _).setCell hB _
theorem st6_at {w : World} {g q m : Nat} {x : I6} (h : Room w g m) (hq : q + 6 ≤ m) : InsAt (st6 w g q x) g q x := by
  have r0 := h
  have r1 := r0.set ⟨g, q, none⟩ (.int .i64 x.o)
  have r2 := r1.set ⟨g, q + 1, none⟩ (.int .i64 x.d)
  have r3 := r2.set ⟨g, q + 2, none⟩ (.int .i64 x.s)
  have r4 := r3.set ⟨g, q + 3, none⟩ (.int .i64 x.f)
  have r5 := r4.set ⟨g, q + 4, none⟩ (.int .i64 x.i)
  obtain ⟨⟨u0, k0⟩, _⟩ := r0 q (by omega)
  obtain ⟨⟨u1, k1⟩, _⟩ := r1 (q + 1) (by omega)
  obtain ⟨⟨u2, k2⟩, _⟩ := r2 (q + 2) (by omega)
  obtain ⟨⟨u3, k3⟩, _⟩ := r3 (q + 3) (by omega)
  obtain ⟨⟨u4, k4⟩, _⟩ := r4 (q + 4) (by omega)
  obtain ⟨⟨u5, k5⟩, _⟩ := r5 (q + 5) (by omega)
  unfold st6
  refine ⟨?_, ?_, ?_, ?_, ?_, ?_⟩
  · rw [World.cell?_setCell_other, World.cell?_setCell_other, World.cell?_setCell_other, World.cell?_setCell_other, World.cell?_setCell_other]
    · exact World.cell?_setCell_same _ _ _ k0
    all_goals simp
  · rw [World.cell?_setCell_other, World.cell?_setCell_other, World.cell?_setCell_other, World.cell?_setCell_other]
    · exact World.cell?_setCell_same _ _ _ k1
    all_goals simp
  · rw [World.cell?_setCell_other, World.cell?_setCell_other, World.cell?_setCell_other]
    · exact World.cell?_setCell_same _ _ _ k2
    all_goals simp
  · rw [World.cell?_setCell_other, World.cell?_setCell_other]
    · exact World.cell?_setCell_same _ _ _ k3
    all_goals simp
  · rw [World.cell?_setCell_other]
    · exact World.cell?_setCell_same _ _ _ k4
    all_goals simp
  · exact World.cell?_setCell_same _ _ _ k5
theorem InsAt.st6 {w : World} {g q r : Nat} {x y : I6} (h : InsAt w g r y) (hr : r + 6 ≤ q) : InsAt (st6 w g q x) g r y := by
  obtain ⟨h0, h1, h2, h3, h4, h5⟩ := h
  exact ⟨(st6_other (by omega)).trans h0, (st6_other (by omega)).trans h1, (st6_other (by omega)).trans h2, (st6_other (by omega)).trans h3, (st6_other (by omega)).trans h4, (st6_other (by omega)).trans h5⟩
theorem st6_size {w : World} {g q : Nat} {x : I6} : (st6 w g q x).heap.size = w.heap.size := by simp [Go.Proofs.YtbbecofgmodfiaaGreatDoor.st6]
theorem room_own {w : World} {base e g n cap : Nat} {xs : List Value} (h : w.ownsRow base e 6 (.slice (some ⟨g, 0, none⟩) n cap) n xs) : Room w g (n * 6) := fun j hj => by
  have hl := h.1
  refine ⟨⟨xs[j]'(by omega), ?_⟩, h.frozenAt j⟩
  rw [h.cellAt j hj, List.getElem?_eq_getElem (by omega)]

end Go.Proofs.YtbbecofgmodfiaaGreatDoor
