/- The specification's l4Bytes: so many bytes. -/
import Derived.Test.YtkaekiodjjhjkaaQUH
namespace Go.Proofs.Ytkaekiodjjhjkaa.G
open Go.RowKit
set_option linter.unusedSimpArgs false
set_option linter.unusedVariables false

theorem snoc_u8 (ws : List Int) (x : Int) : (ws ++ [x]).map (Value.int .u8) = ws.map (Value.int .u8) ++ [.int .u8 x] := by simp

theorem conv_row {w : World} {n₀ k : Nat} {v : Value} {xs : List Int} (hl : xs.length = k) (h : w.ownsRow n₀ 5 1 v k (xs.map (.int .u8))) : ∃ val : ByteArray, val.size = k ∧ (convert 22 9 v).run Try.prog w = .ok (.string val) w := by
  have h' := h
  rcases h.2 with ⟨rfl, rfl⟩ | ⟨g, cap, cur, rfl, _⟩
  · exact ⟨ByteArray.empty, rfl, run_convert_bytes_nil (P := Try.prog) w 22 5 Try.underlying22 Try.underlying5 0 0 9 Try.underlying9⟩
  · refine ⟨strOfNums xs, by simp [strOfNums, ByteArray.size, hl], run_convert_bytes_arg (P := Try.prog) w 22 5 Try.underlying22 Try.underlying5 g 0 k cap xs hl (fun i hi => ?_) 9 Try.underlying9⟩
    rw [Nat.zero_add, h'.cellAt i (by omega), List.getElem?_map, List.getElem?_eq_getElem (by omega)]
    simp [List.getD, List.getElem?_eq_getElem (show i < xs.length by omega)]

set_option maxRecDepth 100000 in
set_option maxHeartbeats 4000000 in
theorem l4Bytes_c (n : Int) (size : Nat) (w : World) (hs : size ≤ 8) :
    Calls Try.prog 71 #[.int .i64 n, .int .i64 size] w fun e w' => ∃ val : ByteArray, e = .returned (.string val) ∧ val.size = size ∧ Below w.heap.size w w' := by
  obtain ⟨i0, hi, hz0, hz1, hz2⟩ := info_parts info5
  have c0 : Below w.heap.size w (w.alloc (.cells #[] 5)) := (Below.refl _ _).alloc (Nat.le_refl _) _
  have o0 : (w.alloc (.cells #[] 5)).ownsRow w.heap.size 5 1 (.slice (some ⟨w.heap.size, 0, none⟩) 0 0) 0 [] := made0 w _ _ 5 rfl (Nat.le_refl _)
  have HC0 := hid c0
  have HO0 := hid o0
  clear c0 o0
  go_enter Try.func71, Try.ntmps71
  go_wp2_with fail
  go_loopw [0, 5, 6] (fun nn out i wr => ∃ (z : Int) (k : Nat) (xs : List Int), nn = .int .i64 z ∧ k ≤ size ∧ i = .int .i64 k ∧ xs.length = k ∧ wr.ownsRow w.heap.size 5 1 out k (xs.map (.int .u8)) ∧ Below w.heap.size w wr) (fun _ _ i _ => size - (intOf i).toNat)
  case atStart => exact ⟨n, 0, [], rfl, Nat.zero_le _, rfl, rfl, HO0.out, HC0.out⟩
  case round =>
    obtain ⟨z, k, xs, rfl, hk, rfl, hxs, hown, hbw⟩ := hrel
    have hsz := hbw.size
    obtain ⟨a0, cap0, rfl⟩ := own_slice hown
    by_cases hlt : k < size
    · have hlt' : (k : Int) < (size : Int) := by omega
      have HX := hid hxs
      have HO := hid hown
      clear hxs hown
      go_wp2_with (first | (at_builtin; go_must (refine wpList_append_own _ rfl _ _ 22 rfl w.heap.size 5 i0 (.int .u8 0) 1 1 Try.underlying22 hi hz0 hz1 hz2 rfl (by decide) _ _ _ rfl (World.ownsRow.alloc HO.out _) ⟨wr.heap.size, 0, none⟩ 1 1 [_] rfl (by simp) (one_newE _ _ _ _ rfl) ?c2 ?c3 ?c4 ?c5 ?_)))
      case c2 => intro u hu; simp only [List.mem_cons, List.not_mem_nil, or_false] at hu; subst hu; rfl
      case c3 => unfold maxLen; omega
      case c4 => omega
      case c5 => simp; omega
      intro v' w3 hown3 hgrow _
      have hb3 : Below w.heap.size w w3 := (hbw.alloc (by omega) _).grown hgrow (by simp; omega) (own_base HO.out)
      rw [← snoc_u8] at hown3
      have H3 := hid hown3
      clear hown3 hgrow
      go_wp2_with fail
      go_roundw
      case rel => exact ⟨_, k + 1, _, rfl, by omega, by go_num, by simp [HX.out], H3.out, hb3⟩
      case measure => simp [intOf]; omega
    · obtain rfl : k = size := by omega
      obtain ⟨val, hval, hconv⟩ := conv_row hxs hown
      have HX := hid hxs
      have HO := hid hown
      have HV := hid hval
      clear hxs hown hval
      go_wp2_with fail
      go_ret
      exact ⟨val, rfl, HV.out, hbw⟩
end Go.Proofs.Ytkaekiodjjhjkaa.G
