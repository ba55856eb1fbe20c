/- strings.Split at blanks, and the words of a line. -/
import Derived.Test.YtbbecofgmodfiaaGreatDoorNM
import Derived.Shelf.Strings.SplitCore
namespace Go.Proofs.YtbbecofgmodfiaaGreatDoor.G
open Go.RowKit
set_option linter.unusedVariables false
set_option linter.unusedSimpArgs false

theorem idxS (x : ByteArray) (w : World) : Calls Tryz.prog 65 #[.string x, .string SP_] w fun e w' => e = .returned (.int .i64 (Lib.indexB x SP_)) ∧ w' = w :=
  (Tryz.strings_Index_one x 32 w).mono fun e w' ⟨he, hw⟩ => ⟨by rw [he, ← Lib.index_one]; rfl, hw⟩
theorem cntS (S : ByteArray) (w : World) : Calls Tryz.prog 64 #[.string S, .string SP_] w fun e w' => e = .returned (.int .i64 (Lib.countB S SP_)) ∧ w' = w :=
  (Tryz.strings_Count_one S 32 w).mono fun e w' ⟨he, hw⟩ => ⟨by rw [he]; show _ = Ending.returned (Value.int .i64 ((Lib.count S.data.toList [32] : Nat) : Int)); rw [Lib.count_one]; rfl, hw⟩
theorem genS (S : ByteArray) (w : World) (hsz : S.size ≤ 1048576) : Calls Tryz.prog 45 #[.string S, .string SP_, .int .i64 ((0 : Nat) : Int), .int .i64 (-1)] w fun e w' => e = .returned (.slice (some ⟨w.heap.size, 0, none⟩) (Lib.splitB SP_ 0 (Lib.countB S SP_ + 1 - 1) S).length (Lib.countB S SP_ + 1)) ∧ w' = w.alloc (.cells (Lib.cellsOf (Lib.splitB SP_ 0 (Lib.countB S SP_ + 1 - 1) S) (Lib.countB S SP_ + 1)) 9) := by
  have hle := Lib.countB_le SP_ (Nat.le_refl 1) _ S (Nat.le_refl _)
  exact Any.strings_genSplit_core Tryz.lays221 (by kernel_rfl) S SP_ 0 (-1) (Lib.countB S SP_ + 1) w (by omega) (Nat.le_refl 1) (Nat.zero_le _) (fun x c _ => idxS x _) (cntS S w) (by decide) (by decide) (by rw [if_pos (by decide)]; omega)
theorem genW (W : List ByteArray) (S : ByteArray) (w : World) (hW : W ≠ []) (hno : ∀ x ∈ W, No32 x) (hS : S = joinW W) (hsz : S.size ≤ 1048576) :
    Calls Tryz.prog 45 #[.string S, .string ⟨#[32]⟩, .int .i64 0, .int .i64 (-1)] w fun e w' => e = .returned (.slice (some ⟨w.heap.size, 0, none⟩) W.length W.length) ∧ w' = w.alloc (.cells (W.map Value.string).toArray 9) := by
  obtain ⟨h1, h2⟩ := split_join W hW hno
  rw [← hS] at h1 h2
  have hpos : 0 < W.length := List.length_pos_iff.2 hW
  have c := genS S w hsz
  have e1 : Lib.countB S SP_ + 1 = W.length := by omega
  have e3 : W.length - 1 = W.length - 1 := rfl
  rw [e1, h1] at c
  have e2 : Lib.cellsOf W W.length = (W.map Value.string).toArray := Lib.cellsOf_full _
  rw [e2] at c
  exact c

set_option maxRecDepth 100000 in
set_option maxHeartbeats 400000 in
theorem splitW (W : List ByteArray) (S : ByteArray) (w : World) (hW : W ≠ []) (hno : ∀ x ∈ W, No32 x) (hS : S = joinW W) (hsz : S.size ≤ 1048576) :
    Calls Tryz.prog 19 #[.string S, .string ⟨#[32]⟩] w fun e w' => e = .returned (.slice (some ⟨w.heap.size, 0, none⟩) W.length W.length) ∧ w' = w.alloc (.cells (W.map Value.string).toArray 9) := by
  have HC := hid (genW W S w hW hno hS hsz)
  obtain ⟨n, hn⟩ : ∃ n, n = W.length := ⟨_, rfl⟩
  obtain ⟨X, hX⟩ : ∃ X, X = (W.map Value.string).toArray := ⟨_, rfl⟩
  rw [← hn, ← hX] at HC ⊢
  clear hn hX hno hS hW hsz
  go_enter Tryz.func19, Tryz.ntmps19
  go_wp2_with fail
  refine HC.out.mono ?_
  rintro e w' ⟨rfl, hw⟩
  rw [hw]
  clear hw w' HC
  go_wp2_with fail
  go_ret
  exact ⟨rfl, rfl⟩

/-- The word of a part. -/
def wordP (d s f i : Int) (p : UInt8) : ByteArray := if p = 100 then ⟨#[114]⟩ ++ decI d else if p = 120 then regI s i else if p = 111 then decI f else callsL.getD i.toNat ⟨#[]⟩
theorem wordP_size {d s f i : Int} (p : UInt8) (hd0 : 0 ≤ d) (hd1 : d ≤ 10) (hs0 : -1 ≤ s) (hs1 : s ≤ 10) (hf0 : -128 ≤ f) (hf1 : f ≤ 127) (hi0 : 0 ≤ i) (hi1 : i ≤ 4294967295) : (wordP d s f i p).size ≤ 1000 := by
  unfold wordP
  split
  · have := decI_size (n := d) (by omega) (by omega)
    rw [ByteArray.size_append]; show 1 + _ ≤ _; omega
  split
  · unfold regI
    split
    · have := decI_size (n := s) (by omega) (by omega)
      rw [ByteArray.size_append]; show 1 + _ ≤ _; omega
    · have := decI_size (n := i) (by omega) (by omega)
      omega
  split
  · have := decI_size (n := f) (by omega) (by omega)
    omega
  · have := call_size i.toNat
    omega
theorem wordP_no (d s f i : Int) (p : UInt8) : No32 (wordP d s f i p) := by
  unfold wordP
  split
  · exact no_app no_r (no_dec _)
  split
  · exact no_reg _ _
  split
  · exact no_dec _
  · exact no_call _
theorem firstS_no (k z : Nat) : No32 (firstS k z) := by
  unfold firstS
  split
  · exact no_app (no_word _) (no_dec _)
  · exact no_word _
def stD (w : World) (B : Nat) (o d s f i z : Int) : World := (((((w.setCell ⟨B, 0, none⟩ (.int .i64 o)).setCell ⟨B, 1, none⟩ (.int .i64 d)).setCell ⟨B, 2, none⟩ (.int .i64 s)).setCell ⟨B, 3, none⟩ (.int .i64 f)).setCell ⟨B, 4, none⟩ (.int .i64 i)).setCell ⟨B, 5, none⟩ (.int .i64 z)
theorem set_at {w : World} {B i j : Nat} {v u : Value} (h : w.cell? ⟨B, j, none⟩ = some u) (hij : i ≠ j) : (w.setCell ⟨B, i, none⟩ v).cell? ⟨B, j, none⟩ = some u := (World.cell?_setCell_other _ _ _ _ (by intro e; injection e with _ h2; omega)).trans h
theorem stD_below {w₀ w : World} {n B : Nat} (h : Below n w₀ w) (hB : n ≤ B) (o d s f i z : Int) : Below n w₀ (stD w B o d s f i z) := (((((h.setCell hB _).setCell hB _).setCell hB _).setCell hB _).setCell hB _).setCell hB _
theorem D6.stO {w : World} {B C : Nat} {o d s f i z : Int} (h : D6 w B o d s f i z) (hne : B ≠ C) (o' d' s' f' i' z' : Int) : D6 (stD w C o' d' s' f' i' z') B o d s f i z := (((((h.setO _ hne).setO _ hne).setO _ hne).setO _ hne).setO _ hne).setO _ hne
theorem D6.st {w : World} {B : Nat} {o d s f i z : Int} (h : D6 w B o d s f i z) (o' d' s' f' i' z' : Int) : D6 (stD w B o' d' s' f' i' z') B o' d' s' f' i' z' := by
  unfold stD
  refine ⟨?_, ?_, ?_, ?_, ?_, ?_, by simpa using h.lt, fun j => by simpa using h.fz j⟩
  · exact set_at (set_at (set_at (set_at (set_at (World.cell?_setCell_same _ _ _ h.c0) (by decide)) (by decide)) (by decide)) (by decide)) (by decide)
  · exact set_at (set_at (set_at (set_at (World.cell?_setCell_same _ _ _ (set_at h.c1 (by decide))) (by decide)) (by decide)) (by decide)) (by decide)
  · exact set_at (set_at (set_at (World.cell?_setCell_same _ _ _ (set_at (set_at h.c2 (by decide)) (by decide))) (by decide)) (by decide)) (by decide)
  · exact set_at (set_at (World.cell?_setCell_same _ _ _ (set_at (set_at (set_at h.c3 (by decide)) (by decide)) (by decide))) (by decide)) (by decide)
  · exact set_at (World.cell?_setCell_same _ _ _ (set_at (set_at (set_at (set_at h.c4 (by decide)) (by decide)) (by decide)) (by decide))) (by decide)
  · exact World.cell?_setCell_same _ _ _ (set_at (set_at (set_at (set_at (set_at h.c5 (by decide)) (by decide)) (by decide)) (by decide)) (by decide))
theorem SL.setO {w : World} {g C j : Nat} {l : List ByteArray} (h : SL w g l) (v : Value) (hne : g ≠ C) : SL (w.setCell ⟨C, j, none⟩ v) g l :=
  ⟨by simpa using h.1, fun i hi => (World.cell?_setCell_other _ _ _ _ (fun e => hne (by injection e with h1; exact h1.symm))).trans (h.2 i hi)⟩
theorem SL.stO {w : World} {g C : Nat} {l : List ByteArray} (h : SL w g l) (hne : g ≠ C) (o d s f i z : Int) : SL (stD w C o d s f i z) g l := (((((h.setO _ hne).setO _ hne).setO _ hne).setO _ hne).setO _ hne).setO _ hne
/-- What is read after some parts. -/
def Cand (ps : List UInt8) (d s f i : Int) (k : Nat) (d' s' f' i' : Int) : Prop :=
  d' = (if (100 : UInt8) ∈ ps.take k then d else 0) ∧ s' = (if (120 : UInt8) ∈ ps.take k then s else -1) ∧ f' = (if (111 : UInt8) ∈ ps.take k then f else 0) ∧ i' = (if (120 : UInt8) ∈ ps.take k ∨ (99 : UInt8) ∈ ps.take k then i else 0)
theorem take_mem {ps : List UInt8} {k : Nat} (h : k < ps.length) (q : UInt8) : q ∈ ps.take (k + 1) ↔ q ∈ ps.take k ∨ q = ps[k] := by
  rw [List.take_succ_eq_append_getElem h, List.mem_append, List.mem_singleton]
theorem cand_d {ps : List UInt8} {d s f i d' s' f' i' : Int} {k : Nat} (h : k < ps.length) (hc : Cand ps d s f i k d' s' f' i') (hp : ps[k] = 100) : Cand ps d s f i (k + 1) d s' f' i' := by
  obtain ⟨h1, h2, h3, h4⟩ := hc
  unfold Cand
  simp only [take_mem h, hp]
  refine ⟨by simp, ?_, ?_, ?_⟩
  · rw [h2]; simp
  · rw [h3]; simp
  · rw [h4]; simp
theorem cand_f {ps : List UInt8} {d s f i d' s' f' i' : Int} {k : Nat} (h : k < ps.length) (hc : Cand ps d s f i k d' s' f' i') (hp : ps[k] = 111) : Cand ps d s f i (k + 1) d' s' f i' := by
  obtain ⟨h1, h2, h3, h4⟩ := hc
  unfold Cand
  simp only [take_mem h, hp]
  refine ⟨?_, ?_, by simp, ?_⟩
  · rw [h1]; simp
  · rw [h2]; simp
  · rw [h4]; simp
theorem cand_c {ps : List UInt8} {d s f i d' s' f' i' : Int} {k : Nat} (h : k < ps.length) (hc : Cand ps d s f i k d' s' f' i') (hp : ps[k] = 99) : Cand ps d s f i (k + 1) d' s' f' i := by
  obtain ⟨h1, h2, h3, h4⟩ := hc
  unfold Cand
  simp only [take_mem h, hp]
  refine ⟨?_, ?_, ?_, by simp⟩
  · rw [h1]; simp
  · rw [h2]; simp
  · rw [h3]; simp
theorem cand_x1 {ps : List UInt8} {d s f i d' s' f' i' : Int} {k : Nat} (h : k < ps.length) (hc : Cand ps d s f i k d' s' f' i') (hp : ps[k] = 120) (hi : i = 0) : Cand ps d s f i (k + 1) d' s f' i' := by
  obtain ⟨h1, h2, h3, h4⟩ := hc
  unfold Cand
  simp only [take_mem h, hp]
  refine ⟨?_, by simp, ?_, ?_⟩
  · rw [h1]; simp
  · rw [h3]; simp
  · rw [h4, hi]; simp
theorem cand_x0 {ps : List UInt8} {d s f i d' s' f' i' : Int} {k : Nat} (h : k < ps.length) (hc : Cand ps d s f i k d' s' f' i') (hp : ps[k] = 120) (hs : s = -1) : Cand ps d s f i (k + 1) d' (-1) f' i := by
  obtain ⟨h1, h2, h3, h4⟩ := hc
  unfold Cand
  simp only [take_mem h, hp]
  refine ⟨?_, by simp [hs], ?_, by simp⟩
  · rw [h1]; simp
  · rw [h3]; simp
end Go.Proofs.YtbbecofgmodfiaaGreatDoor.G
