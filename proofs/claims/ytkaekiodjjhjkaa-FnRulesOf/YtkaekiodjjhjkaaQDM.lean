/- Maps from numbers to functions, made by the call itself: one more key; what stands at a key. -/
import Derived.Test.YtkaekiodjjhjkaaQRA
import Derived.MapKept
namespace Go.Proofs.Ytkaekiodjjhjkaa.H
open Go.RowKit Go.MapKept
set_option linter.unusedVariables false
set_option linter.unusedSimpArgs false

theorem key_int (n : Int) : IsKey (.int .i64) (.int .i64 n) := by simp [IsKey]

theorem set_last {α : Type} (a : Array α) (x y : α) : (a.push x).setIfInBounds a.size y = a.push y := by
  apply Array.ext'
  rw [Array.toList_setIfInBounds, Array.toList_push, Array.toList_push, ← Array.length_toList]
  rw [List.set_append_right _ _ (Nat.le_refl _)]
  simp

theorem upd_new {T K E : TypeId} (hT : Try.prog.underlying T = some (.map K E)) (hK : Try.prog.underlying K = some (.int .i64)) (w : World) (es : Array MapEntry) (c : Nat) (n : Int) (v : Value)
    (hf : Instr.findNow (.int .i64) (.int .i64 n) es.toList 0 = some none) :
    (Instr.mapUpdate T (.map (some w.heap.size)) (.int .i64 n) v).run Try.prog (w.alloc (.map es c)) = .ok () (w.alloc (.map (es.push { key := .int .i64 n, val := v, born := c }) (c + 1))) := by
  have hb : (w.alloc (.map es c)).heap[w.heap.size]? = some (.map es c) := (heap_alloc w _).1
  have hs := set_last w.heap (.map es c) (.map (es.push { key := .int .i64 n, val := v, born := c }) (c + 1))
  have e : ({ w.alloc (.map es c) with heap := (w.alloc (.map es c)).heap.setIfInBounds w.heap.size (.map (es.push { key := .int .i64 n, val := v, born := c }) (c + 1)) } : World) = w.alloc (.map (es.push { key := .int .i64 n, val := v, born := c }) (c + 1)) := by
    show ({ w with heap := (w.heap.push (.map es c)).setIfInBounds w.heap.size _ } : World) = { w with heap := w.heap.push _ }
    rw [hs]
  rw [← e]
  simp [Instr.mapUpdate, run_underlying hT, MapKept.run_getObj_map hb, run_checkKey hK (key_int n), run_findKey hK hf, run_setObj_map _ hb, Result.andThen]

theorem look_at {T K E : TypeId} (hT : Try.prog.underlying T = some (.map K E)) (hK : Try.prog.underlying K = some (.int .i64)) {w : World} {b : Nat} {es : Array MapEntry} {c : Nat} (hb : w.heap[b]? = some (.map es c)) (n : Int) (i : Nat) (v : Value)
    (hf : Instr.findNow (.int .i64) (.int .i64 n) es.toList 0 = some (some (i, v))) :
    (Instr.lookup T (.map (some b)) (.int .i64 n) true).run Try.prog w = .ok (.tuple #[v, .bool true]) w := by
  simp [Instr.lookup, run_underlying hT, MapKept.run_getObj_map hb, run_checkKey hK (key_int n), run_findKey hK hf, Result.andThen]

theorem look_none {T K E : TypeId} (hT : Try.prog.underlying T = some (.map K E)) (hK : Try.prog.underlying K = some (.int .i64)) {w : World} {b : Nat} {es : Array MapEntry} {c : Nat} (hb : w.heap[b]? = some (.map es c)) (n : Int) (z : Value) (hz : (zeroValue E).run Try.prog w = .ok z w)
    (hf : Instr.findNow (.int .i64) (.int .i64 n) es.toList 0 = some none) :
    (Instr.lookup T (.map (some b)) (.int .i64 n) true).run Try.prog w = .ok (.tuple #[z, .bool false]) w := by
  simp [Instr.lookup, run_underlying hT, MapKept.run_getObj_map hb, run_checkKey hK (key_int n), run_findKey hK hf, Result.andThen, hz]

end Go.Proofs.Ytkaekiodjjhjkaa.H
