/- So many bytes 0. -/
import Derived.Shelf.Strings.Repeat
import Derived.Test.YtkaekiodjjhjkaaProg
import Derived.Test.YtkaekiodjjhjkaaQGrp3
import Derived.Laws.OwnMore
namespace Go.Proofs.Ytkaekiodjjhjkaa.G
open Go.RowKit
set_option linter.unusedSimpArgs false
set_option linter.unusedVariables false

def zerosB (n : Nat) : ByteArray := ⟨(List.replicate n 0).toArray⟩
theorem nums_zero (n : Nat) : strOfNums (List.replicate n 0) = zerosB n := by
  apply ByteArray.ext
  simp [strOfNums, zerosB]

theorem info5 : (Try.prog.info? 5).map (fun i => (i.zero, i.size, i.bytes)) = some (some (.int .u8 0), 1, 1) := by kernel_rfl

set_option maxRecDepth 100000 in
set_option maxHeartbeats 2000000 in
theorem f52 (n : Nat) (w : World) (hn : n ≤ 8) : Calls Try.prog 100 #[.int .i64 n] w fun e w' => e = .returned (.string (zerosB n)) ∧ Below w.heap.size w w' := by
  obtain ⟨i0, hi, hz0, hz1, hz2⟩ := info_parts info5
  go_enter Try.func100, Try.ntmps100
  go_wp2_with (first | (refine wpList_make_full _ rfl _ _ 22 rfl w.heap.size 5 i0 _ 1 Try.underlying22 hi hz0 hz1 .i64 .i64 _ _ n rfl rfl rfl rfl ?m1 ?m2 (Nat.le_refl _) ?_))
  case m1 => rw [hz2]; omega
  case m2 => unfold maxLen; omega
  intro w1 hown hgrow
  have hbel : Below w.heap.size w w1 := (Below.refl _ _).grown hgrow (Nat.le_refl _) (fun k hk => by cases hk)
  have hcell : ∀ i, i < n → w1.cell? ⟨w.heap.size, 0 + i, none⟩ = some (.int .u8 ((List.replicate n (0 : Int)).getD i 0)) := by
    intro i hi'
    rw [Nat.zero_add, hown.cellAt i (by omega)]
    rw [toList_madeCells_one, List.getElem?_replicate, if_pos (by omega)]
    simp [List.getD, hi']
  have hconv := run_convert_bytes_arg (P := Try.prog) w1 22 5 Try.underlying22 Try.underlying5 w.heap.size 0 n n (List.replicate n 0) (by simp) hcell 9 Try.underlying9
  rw [nums_zero] at hconv
  clear hcell hown hgrow hi hz0 hz1 hz2
  go_wp2_with fail
  go_ret
  exact ⟨rfl, hbel⟩

end Go.Proofs.Ytkaekiodjjhjkaa.G
