/- The draws' reading of lines. -/
import Derived.Test.YtkaekiodjjhjkaaQLGet
import Derived.Test.YtkaekiodjjhjkaaQGrp1
namespace Go.Proofs.Ytkaekiodjjhjkaa
open Go.RowKit
set_option linter.unusedVariables false
set_option linter.unusedSimpArgs false


theorem AnXB.x {e : Ending} (h : AnXB e) : ∃ (x : I6) (q : Bool), e = .returned (.tuple #[.agg #[.int .i64 x.o, .int .i64 x.d, .int .i64 x.s, .int .i64 x.f, .int .i64 x.i, .int .i64 x.z], .bool q]) := by
  obtain ⟨o, d, s, f, i, z, q, rfl⟩ := h
  exact ⟨⟨o, d, s, f, i, z⟩, q, rfl⟩
/-- Some ops, so many. -/
def AnP (base m : Nat) (w' : World) (e : Ending) : Prop := ∃ (xs : List I6) (v : Value), e = .returned v ∧ xs.length = m ∧ w'.ownsRow base 86 6 v xs.length (flat xs)

set_option maxRecDepth 100000 in
set_option maxHeartbeats 4000000 in
theorem rdl_w (l : List ByteArray) (L c : Nat) (w : World) (h : SL w L l) (hl : l.length ≤ 20) (hsz : ∀ x ∈ l, x.size ≤ 1000) :
    Calls Try.prog 52 #[.slice (some ⟨L, 0, none⟩) l.length c] w fun e w' => AnP w.heap.size l.length w' e ∧ Below w.heap.size w w' := by
  obtain ⟨i0, hi, hz0, hz1, hz2⟩ := info_parts info25
  have H := hid h
  have HSZ := hid hsz
  have c0 : Below w.heap.size w (w.alloc (.cells #[] 86)) := (Below.refl _ _).alloc (Nat.le_refl _) _
  have o0 : (w.alloc (.cells #[] 86)).ownsRow w.heap.size 86 6 (.slice (some ⟨w.heap.size, 0, none⟩) 0 0) 0 [] := by
    refine ⟨rfl, .inr ⟨w.heap.size, 0, #[], rfl, Nat.le_refl _, World.alloc_heap_new w _, Nat.le_refl _, Nat.zero_le _, rfl, rfl⟩⟩
  have HC0 := hid c0
  have HO0 := hid o0
  clear h hsz c0 o0
  go_enter Try.func52, Try.ntmps52
  go_wp2_with fail
  go_loopw [3, 4] (fun v i wr => ∃ (k : Nat) (xs : List I6), k ≤ l.length ∧ i = .int .i64 k ∧ xs.length = k ∧ wr.ownsRow w.heap.size 86 6 v xs.length (flat xs) ∧ Below w.heap.size w wr) (fun _ i _ => l.length - (intOf i).toNat)
  case atStart => exact ⟨0, [], Nat.zero_le _, rfl, rfl, HO0.out, HC0.out⟩
  case round =>
    obtain ⟨k, xs, hk, rfl, hxl, hown, hbw⟩ := hrel
    have HXL := hid hxl
    have hks : xs.length ≤ 20 := by omega
    clear hxl
    by_cases hlt : k < l.length
    · have hlt' : (k : Int) < (l.length : Int) := by omega
      have hk0 : (0 : Int) ≤ (k : Int) := by omega
      have hc := (H.out.below hbw).2 k hlt
      have hys : (l.getD k ⟨#[]⟩).size ≤ 1000 := by rw [List.getD, List.getElem?_eq_getElem hlt]; exact HSZ.out _ (List.getElem_mem hlt)
      generalize l.getD k ⟨#[]⟩ = y at *
      go_wp2_with fail
      refine (lineGet_w y _ hys).mono ?_
      rintro e w2 ⟨hx, hb2⟩
      obtain ⟨x, q, rfl⟩ := hx.x
      have hbw2 : Below w.heap.size w w2 := hbw.trans (hb2.mono hbw.size)
      have hsz2 := hbw2.size
      have hown2 : w2.ownsRow w.heap.size 86 6 _ xs.length (flat xs) := own_below hown hb2
      clear hx
      go_wp2_with (first | (at_builtin; go_must (refine wpList_append_own _ rfl _ _ 40 rfl w.heap.size 86 i0 (.agg #[.int .i64 0, .int .i64 0, .int .i64 0, .int .i64 0, .int .i64 0, .int .i64 0]) 6 48 Try.underlying40 hi hz0 hz1 hz2 rfl (by decide) _ _ _ rfl ((hown2.alloc _).alloc _) ⟨w2.heap.size + 1, 0, none⟩ 1 1 [.int .i64 x.o, .int .i64 x.d, .int .i64 x.s, .int .i64 x.f, .int .i64 x.i, .int .i64 x.z] rfl rfl ?c1 ?c2 ?c3 ?c4 ?c5 ?_)))
      case c1 => exact news_at w2 _ x
      case c2 => exact news_one x
      case c3 => unfold maxLen; omega
      case c4 => omega
      case c5 => simp; omega
      intro v' w3 hown3 hgrow _
      have hown4 : w3.ownsRow w.heap.size 86 6 v' (xs ++ [x]).length (flat (xs ++ [x])) := by rw [flat_snoc]; simpa using hown3
      have hbw3 : Below w.heap.size w w3 := ((hbw2.alloc hsz2 _).alloc (by simp; omega) _).grown hgrow (by simp; omega) (own_base hown2)
      clear hown hown2 hown3 hgrow
      go_wp2_with fail
      go_roundw
      case rel => exact ⟨k + 1, xs ++ [x], by omega, by go_num, by simp [HXL.out], hown4, hbw3⟩
      case measure => simp [intOf]; omega
    · obtain rfl : k = l.length := by omega
      have HOW := hid hown
      clear hown
      go_wp2_with fail
      go_ret
      exact ⟨⟨xs, _, rfl, HXL.out, HOW.out⟩, hbw⟩
end Go.Proofs.Ytkaekiodjjhjkaa
