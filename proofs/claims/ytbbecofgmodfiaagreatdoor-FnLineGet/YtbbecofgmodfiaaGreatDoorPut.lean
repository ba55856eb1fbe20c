/- Contracts of InsPut. -/
import Derived.Test.YtbbecofgmodfiaaGreatDoorOk2
import Derived.Test.YtbbecofgmodfiaaGreatDoorBits
import Derived.Deep.RegionHeld3
namespace Go.Proofs.YtbbecofgmodfiaaGreatDoor
open Go.RowKit
set_option linter.unusedSimpArgs false
set_option linter.unusedSimpArgs false

theorem conv4 (w : World) (B : Nat) (a b c d : Int) (hB : B = w.heap.size) : (convert 22 9 (.slice (some ⟨B, 0, none⟩) 4 4)).run Tryz.prog (w.alloc (.cells #[.int .u8 a, .int .u8 b, .int .u8 c, .int .u8 d] 5)) =
    .ok (.string (strOfNums [a, b, c, d])) (w.alloc (.cells #[.int .u8 a, .int .u8 b, .int .u8 c, .int .u8 d] 5)) := by
  subst hB
  refine run_convert_bytes_arg _ 22 5 Tryz.underlying22 Tryz.underlying5 w.heap.size 0 4 4 [a, b, c, d] rfl ?_ 9 Tryz.underlying9
  intro i hi
  rcases (by omega : i = 0 ∨ i = 1 ∨ i = 2 ∨ i = 3) with rfl | rfl | rfl | rfl <;> simp [go_sem]

theorem conv4d (w : World) (B : Nat) (a b c d : Int) (hB : B = w.heap.size) : (convert 22 9 (.slice (some ⟨B, 0, none⟩) 4 4)).run Tryz.prog (w.alloc (.cells #[.int .u8 a, .int .u8 b, .int .u8 c, .int .u8 d] 5)).drew =
    .ok (.string (strOfNums [a, b, c, d])) (w.alloc (.cells #[.int .u8 a, .int .u8 b, .int .u8 c, .int .u8 d] 5)).drew := by
  subst hB
  refine run_convert_bytes_arg _ 22 5 Tryz.underlying22 Tryz.underlying5 w.heap.size 0 4 4 [a, b, c, d] rfl ?_ 9 Tryz.underlying9
  intro i hi
  rcases (by omega : i = 0 ∨ i = 1 ∨ i = 2 ∨ i = 3) with rfl | rfl | rfl | rfl <;> simp [go_sem]

theorem conv4o (w : World) (B : Nat) (a b c d : Int) (O : Obj) (hB : B = w.heap.size) : (convert 22 9 (.slice (some ⟨B, 0, none⟩) 4 4)).run Tryz.prog ((w.alloc (.cells #[.int .u8 a, .int .u8 b, .int .u8 c, .int .u8 d] 5)).alloc O).drew =
    .ok (.string (strOfNums [a, b, c, d])) ((w.alloc (.cells #[.int .u8 a, .int .u8 b, .int .u8 c, .int .u8 d] 5)).alloc O).drew := by
  subst hB
  refine run_convert_bytes_arg _ 22 5 Tryz.underlying22 Tryz.underlying5 w.heap.size 0 4 4 [a, b, c, d] rfl ?_ 9 Tryz.underlying9
  intro i hi
  rcases (by omega : i = 0 ∨ i = 1 ∨ i = 2 ∨ i = 3) with rfl | rfl | rfl | rfl <;> simp [go_sem]

theorem conv8 (w : World) (B : Nat) (a b c d e f g h : Int) (hB : B = w.heap.size) : (convert 22 9 (.slice (some ⟨B, 0, none⟩) 8 8)).run Tryz.prog (w.alloc (.cells #[.int .u8 a, .int .u8 b, .int .u8 c, .int .u8 d, .int .u8 e, .int .u8 f, .int .u8 g, .int .u8 h] 5)) =
    .ok (.string (strOfNums [a, b, c, d, e, f, g, h])) (w.alloc (.cells #[.int .u8 a, .int .u8 b, .int .u8 c, .int .u8 d, .int .u8 e, .int .u8 f, .int .u8 g, .int .u8 h] 5)) := by
  subst hB
  refine run_convert_bytes_arg _ 22 5 Tryz.underlying22 Tryz.underlying5 w.heap.size 0 8 8 [a, b, c, d, e, f, g, h] rfl ?_ 9 Tryz.underlying9
  intro i hi
  rcases (by omega : i = 0 ∨ i = 1 ∨ i = 2 ∨ i = 3 ∨ i = 4 ∨ i = 5 ∨ i = 6 ∨ i = 7) with rfl | rfl | rfl | rfl | rfl | rfl | rfl | rfl <;> simp [go_sem]

theorem conv8d (w : World) (B : Nat) (a b c d e f g h : Int) (hB : B = w.heap.size) : (convert 22 9 (.slice (some ⟨B, 0, none⟩) 8 8)).run Tryz.prog (w.alloc (.cells #[.int .u8 a, .int .u8 b, .int .u8 c, .int .u8 d, .int .u8 e, .int .u8 f, .int .u8 g, .int .u8 h] 5)).drew =
    .ok (.string (strOfNums [a, b, c, d, e, f, g, h])) (w.alloc (.cells #[.int .u8 a, .int .u8 b, .int .u8 c, .int .u8 d, .int .u8 e, .int .u8 f, .int .u8 g, .int .u8 h] 5)).drew := by
  subst hB
  refine run_convert_bytes_arg _ 22 5 Tryz.underlying22 Tryz.underlying5 w.heap.size 0 8 8 [a, b, c, d, e, f, g, h] rfl ?_ 9 Tryz.underlying9
  intro i hi
  rcases (by omega : i = 0 ∨ i = 1 ∨ i = 2 ∨ i = 3 ∨ i = 4 ∨ i = 5 ∨ i = 6 ∨ i = 7) with rfl | rfl | rfl | rfl | rfl | rfl | rfl | rfl <;> simp [go_sem]

def fourN (n : Int) : List Int := [n % 256, n / 256 % 256, n / 65536 % 256, n / 16777216 % 256]
def headN (o d s f z : Int) : List Int := [o % 256, (d * 16 + s + 1) % 256, f % 256, z % 256]

theorem ret_string {a b : ByteArray} (h : a = b) : Ending.returned (.string a) = .returned (.string b) := by rw [h]
theorem str_app (a b : List Int) : strOfNums a ++ strOfNums b = strOfNums (a ++ b) := by
  apply ByteArray.ext
  simp [strOfNums]
theorem head_eq (o d s f z : Int) : [IntKind.u8.wrap o, IntKind.u8.wrap (IntKind.i64.wrap (IntKind.i64.wrap (IntKind.i64.wrap (d * 16) + s) + 1)), IntKind.u8.wrap (bits BinOp.and IntKind.i64 f 255), IntKind.u8.wrap z] = headN o d s f z := by
  simp only [headN, IntKind.wrap_u8', IntKind.wrap_i64, and255, List.cons.injEq, and_true, true_and]
  refine ⟨?_, ?_⟩ <;> omega
theorem eight_eq (o d s f i z : Int) : [o % 256, wrap64 (wrap64 (wrap64 (d * 16) + s) + 1) % 256, f % 256, z % 256, i % 256, i / 256 % 256, i / 65536 % 256, i / 16777216 % 256] = headN o d s f z ++ fourN i := by
  simp only [headN, fourN, wrap64, List.cons_append, List.nil_append, List.cons.injEq, and_true, true_and]
  omega
def putS (o d s f i z : Int) : ByteArray := strOfNums (headN o d s f z ++ fourN i)
def insS (o d s f i z : Int) : ByteArray := if sokB o d s f i z then putS o d s f i z else ⟨#[]⟩

end Go.Proofs.YtbbecofgmodfiaaGreatDoor
