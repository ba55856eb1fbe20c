/- The specification's LineGet, loosely. -/
import Derived.Test.YtkaekiodjjhjkaaQLRd
namespace Go.Proofs.Ytkaekiodjjhjkaa
open Go.RowKit
set_option linter.unusedVariables false
set_option linter.unusedSimpArgs false


def AnXB (e : Ending) : Prop := ∃ (o d s f i z : Int) (q : Bool), e = .returned (.tuple #[.agg #[.int .i64 o, .int .i64 d, .int .i64 s, .int .i64 f, .int .i64 i, .int .i64 z], .bool q])

set_option maxRecDepth 100000 in
set_option maxHeartbeats 4000000 in
theorem lineGet_w (s : ByteArray) (w : World) (hs : s.size ≤ 1000) :
    Calls Try.prog 68 #[.string s] w fun e w' => AnXB e ∧ Below w.heap.size w w' := by
  go_enter Try.func68, Try.ntmps68
  go_wp2_with fail
  have hq : Box6 (w.alloc (.cells #[.int .i64 0, .int .i64 0, .int .i64 0, .int .i64 0, .int .i64 0, .int .i64 0] 86)) w.heap.size 0 0 0 0 0 0 := World.alloc_heap_new w _
  have hz : Below w.heap.size w (w.alloc (.cells #[.int .i64 0, .int .i64 0, .int .i64 0, .int .i64 0, .int .i64 0, .int .i64 0] 86)) := (Below.refl _ _).alloc (Nat.le_refl _) _
  have HQ := hid hq
  have HZ := hid hz
  clear hq hz
  generalize w.alloc (.cells #[.int .i64 0, .int .i64 0, .int .i64 0, .int .i64 0, .int .i64 0, .int .i64 0] 86) = w1 at *
  refine (cut_w s 32 w1 hs).mono ?_
  rintro e w2 ⟨⟨ws, a, c, rfl, l1, l6, hall, hown⟩, b2⟩
  replace HQ := hid (HQ.out.bel b2)
  replace HZ := hid (HZ.out.to b2)
  clear b2
  obtain ⟨g, hg, hsl⟩ : ∃ g, a = some ⟨g, 0, none⟩ ∧ SL w2 g ws := by
    have hown' := hown
    rcases hown.2 with ⟨_, h0⟩ | ⟨g, cap, cur, h0, _, hgb, _⟩
    · omega
    · simp only [Value.slice.injEq] at h0
      obtain ⟨rfl, _, _⟩ := h0
      refine ⟨g, rfl, (Array.getElem?_eq_some_iff.1 hgb).1, fun j hj => ?_⟩
      rw [hown'.cellAt j (by omega)]
      simp [List.getD, List.getElem?_eq_getElem hj]
  subst hg
  have HSL := hid hsl
  have HALL := hid hall
  clear hown hsl hall
  go_wp2_with fail
  refine (read_w ws g c _ HSL.out l1 l6 HALL.out).mono ?_
  rintro e w3 ⟨⟨o, d, t, f, i, z, rfl⟩, b3⟩
  replace HQ := hid (HQ.out.bel b3)
  replace HZ := hid (HZ.out.to b3)
  clear b3 HSL HALL
  go_wp2_with fail
  have hx : Box6 (w3.alloc (.cells #[.int .i64 o, .int .i64 d, .int .i64 t, .int .i64 f, .int .i64 i, .int .i64 z] 86)) w3.heap.size o d t f i z := World.alloc_heap_new w3 _
  have ba : Below w3.heap.size w3 (w3.alloc (.cells #[.int .i64 o, .int .i64 d, .int .i64 t, .int .i64 f, .int .i64 i, .int .i64 z] 86)) := (Below.refl _ _).alloc (Nat.le_refl _) _
  have lXQ := Box6.lt HQ.out
  replace HQ := hid (HQ.out.bel ba)
  replace HZ := hid (HZ.out.to ba)
  have HX := hid hx
  clear hx ba
  generalize w3.alloc (.cells #[.int .i64 o, .int .i64 d, .int .i64 t, .int .i64 f, .int .i64 i, .int .i64 z] 86) = w4 at *
  generalize w3.heap.size = X at *
  refine (f28 o d t f i z _).mono ?_
  rintro e w5 ⟨rfl, b5⟩
  replace HQ := hid (HQ.out.bel b5)
  replace HX := hid (HX.out.bel b5)
  replace HZ := hid (HZ.out.to b5)
  clear b5
  cases hok : sokB o d t f i z
  · skip
    have B5' := hid (st6b_below (B := w.heap.size) HZ.out (Nat.le_refl _) 0 0 0 0 0 0)
    have P5 := hid (Box6.cells (Box6.st HQ.out 0 0 0 0 0 0))
    obtain ⟨x0, x1, x2, x3, x4, x5⟩ := Box6.cells HX.out
    have xl := Box6.lt HX.out
    obtain ⟨q0, q1, q2, q3, q4, q5⟩ := Box6.cells HQ.out
    have ql := Box6.lt HQ.out
    have qf := Box6.frozen HQ.out
    go_wp2_with fail
    obtain ⟨r0, r1, r2, r3, r4, r5⟩ := P5.out
    unfold st6b at r0 r1 r2 r3 r4 r5
    refine bodyPost_ret (v := .tuple #[.agg #[.int .i64 0, .int .i64 0, .int .i64 0, .int .i64 0, .int .i64 0, .int .i64 0], .bool false]) (by simp [results, Try.results68, go_sem, r0, r1, r2, r3, r4, r5]) rfl ?_
    exact ⟨⟨_, _, _, _, _, _, _, rfl⟩, B5'.out⟩
  · skip
    obtain ⟨x0, x1, x2, x3, x4, x5⟩ := Box6.cells HX.out
    have xl := Box6.lt HX.out
    go_wp2_with fail
    clear x0 x1 x2 x3 x4 x5 xl
    refine (line_w o d t f i z _ hok).mono ?_
    rintro e w6 ⟨⟨x, hxs, rfl⟩, b6⟩
    replace HQ := hid (HQ.out.bel b6)
    replace HX := hid (HX.out.bel b6)
    replace HZ := hid (HZ.out.to b6)
    clear b6
    cases hq : (x.toList == s.toList)
    · skip
      have B5' := hid (st6b_below (B := w.heap.size) HZ.out (Nat.le_refl _) 0 0 0 0 0 0)
      have P5 := hid (Box6.cells (Box6.st HQ.out 0 0 0 0 0 0))
      obtain ⟨x0, x1, x2, x3, x4, x5⟩ := Box6.cells HX.out
      have xl := Box6.lt HX.out
      obtain ⟨q0, q1, q2, q3, q4, q5⟩ := Box6.cells HQ.out
      have ql := Box6.lt HQ.out
      have qf := Box6.frozen HQ.out
      go_wp2_with fail
      obtain ⟨r0, r1, r2, r3, r4, r5⟩ := P5.out
      unfold st6b at r0 r1 r2 r3 r4 r5
      refine bodyPost_ret (v := .tuple #[.agg #[.int .i64 0, .int .i64 0, .int .i64 0, .int .i64 0, .int .i64 0, .int .i64 0], .bool false]) (by simp [results, Try.results68, go_sem, r0, r1, r2, r3, r4, r5]) rfl ?_
      exact ⟨⟨_, _, _, _, _, _, _, rfl⟩, B5'.out⟩
    · skip
      have B5' := hid (st6b_below (B := w.heap.size) HZ.out (Nat.le_refl _) o d t f i z)
      have P5 := hid (Box6.cells (Box6.st HQ.out o d t f i z))
      obtain ⟨x0, x1, x2, x3, x4, x5⟩ := Box6.cells HX.out
      have xl := Box6.lt HX.out
      obtain ⟨q0, q1, q2, q3, q4, q5⟩ := Box6.cells HQ.out
      have ql := Box6.lt HQ.out
      have qf := Box6.frozen HQ.out
      go_wp2_with fail
      obtain ⟨r0, r1, r2, r3, r4, r5⟩ := P5.out
      unfold st6b at r0 r1 r2 r3 r4 r5
      refine bodyPost_ret (v := .tuple #[.agg #[.int .i64 o, .int .i64 d, .int .i64 t, .int .i64 f, .int .i64 i, .int .i64 z], .bool true]) (by simp [results, Try.results68, go_sem, r0, r1, r2, r3, r4, r5]) rfl ?_
      exact ⟨⟨_, _, _, _, _, _, _, rfl⟩, B5'.out⟩
end Go.Proofs.Ytkaekiodjjhjkaa
