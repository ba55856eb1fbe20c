/- The specification's LineGet, exactly. -/
import Derived.Test.YtbbecofgmodfiaaDoorZR
import Derived.Test.YtbbecofgmodfiaaDoorZM
namespace Go.Proofs.YtbbecofgmodfiaaDoor
open Go.RowKit
set_option linter.unusedVariables false
set_option linter.unusedSimpArgs false

set_option maxRecDepth 100000 in
set_option maxHeartbeats 4000000 in
theorem getNoS (S : ByteArray) (hs : S.size ≤ 1048576) (hno : ∀ o d t f i z : Int, sokB o d t f i z = true → S ≠ lineS o d t f i z) (w : World) :
    Calls Tryd.prog 8 #[.string S] w fun e w' => e = .returned (.tuple #[.agg #[.int .i64 0, .int .i64 0, .int .i64 0, .int .i64 0, .int .i64 0, .int .i64 0], .bool false]) ∧ Below w.heap.size w w' := by
  have HNO := hid hno
  clear hno
  go_enter Tryd.func8, Tryd.ntmps8
  go_wp2_with fail
  have hq : Box6 (w.alloc (.cells #[.int .i64 0, .int .i64 0, .int .i64 0, .int .i64 0, .int .i64 0, .int .i64 0] 25)) w.heap.size 0 0 0 0 0 0 := World.alloc_heap_new w _
  have hz : Below w.heap.size w (w.alloc (.cells #[.int .i64 0, .int .i64 0, .int .i64 0, .int .i64 0, .int .i64 0, .int .i64 0] 25)) := (Below.refl _ _).alloc (Nat.le_refl _) _
  have HQ := hid hq
  have HZ := hid hz
  clear hq hz
  generalize w.alloc (.cells #[.int .i64 0, .int .i64 0, .int .i64 0, .int .i64 0, .int .i64 0, .int .i64 0] 25) = w1 at *
  refine (cutE S w1 hs).mono ?_
  rintro e w2 ⟨⟨ws, a, c, rfl, l1, l6, hcut, hall, hown⟩, b2⟩
  replace HQ := hid (HQ.out.bel b2)
  replace HZ := hid (HZ.out.to b2)
  clear b2
  obtain ⟨g, hg, hsl⟩ : ∃ g, a = some ⟨g, 0, none⟩ ∧ SL w2 g ws := by
    have hown' := hown
    rcases hown.2 with ⟨_, h0⟩ | ⟨g, cap, cur, h0, _, hgb, _⟩
    · omega
    · simp only [Value.slice.injEq] at h0
      obtain ⟨rfl, _, _⟩ := h0
      refine ⟨g, rfl, (Array.getElem?_eq_some_iff.1 hgb).1, fun j hj => ?_⟩
      rw [hown'.cellAt j (by omega)]
      simp [List.getD, List.getElem?_eq_getElem hj]
  subst hg
  have HSL := hid hsl
  have HALL := hid hall
  clear hown hsl hall hcut
  go_wp2_with fail
  refine (readE (fun _ _ _ => True) ws g c _ HSL.out l1 l6 HALL.out (fun _ _ => trivial) (fun _ _ _ _ _ _ _ => trivial) (fun _ _ _ _ _ _ _ _ => trivial)).mono ?_
  rintro e w3 ⟨⟨o, d, t, f, i, z, _, _, rfl⟩, b3⟩
  replace HQ := hid (HQ.out.bel b3)
  replace HZ := hid (HZ.out.to b3)
  clear b3 HSL HALL
  go_wp2_with fail
  have hx : Box6 (w3.alloc (.cells #[.int .i64 o, .int .i64 d, .int .i64 t, .int .i64 f, .int .i64 i, .int .i64 z] 25)) w3.heap.size o d t f i z := World.alloc_heap_new w3 _
  have ba : Below w3.heap.size w3 (w3.alloc (.cells #[.int .i64 o, .int .i64 d, .int .i64 t, .int .i64 f, .int .i64 i, .int .i64 z] 25)) := (Below.refl _ _).alloc (Nat.le_refl _) _
  have lXQ := Box6.lt HQ.out
  replace HQ := hid (HQ.out.bel ba)
  replace HZ := hid (HZ.out.to ba)
  have HX := hid hx
  clear hx ba
  generalize w3.alloc (.cells #[.int .i64 o, .int .i64 d, .int .i64 t, .int .i64 f, .int .i64 i, .int .i64 z] 25) = w4 at *
  generalize w3.heap.size = X at *
  refine (f28 o d t f i z _).mono ?_
  rintro e w5 ⟨rfl, b5⟩
  replace HQ := hid (HQ.out.bel b5)
  replace HX := hid (HX.out.bel b5)
  replace HZ := hid (HZ.out.to b5)
  clear b5
  cases hok : sokB o d t f i z
  · skip
    have B5' := hid (st6b_below (B := w.heap.size) HZ.out (Nat.le_refl _) 0 0 0 0 0 0)
    have P5 := hid (Box6.cells (Box6.st HQ.out 0 0 0 0 0 0))
    obtain ⟨x0, x1, x2, x3, x4, x5⟩ := Box6.cells HX.out
    have xl := Box6.lt HX.out
    obtain ⟨q0, q1, q2, q3, q4, q5⟩ := Box6.cells HQ.out
    have ql := Box6.lt HQ.out
    have qf := Box6.frozen HQ.out
    go_wp2_with fail
    obtain ⟨r0, r1, r2, r3, r4, r5⟩ := P5.out
    unfold st6b at r0 r1 r2 r3 r4 r5
    refine bodyPost_ret (v := .tuple #[.agg #[.int .i64 0, .int .i64 0, .int .i64 0, .int .i64 0, .int .i64 0, .int .i64 0], .bool false]) (by simp [results, Tryd.results8, go_sem, r0, r1, r2, r3, r4, r5]) rfl ?_
    exact ⟨rfl, B5'.out⟩
  · skip
    obtain ⟨x0, x1, x2, x3, x4, x5⟩ := Box6.cells HX.out
    have xl := Box6.lt HX.out
    go_wp2_with fail
    clear x0 x1 x2 x3 x4 x5 xl
    refine (line_w o d t f i z _ hok).mono ?_
    rintro e w6 ⟨⟨x, hxs, hxe, rfl⟩, b6⟩
    replace HQ := hid (HQ.out.bel b6)
    replace HX := hid (HX.out.bel b6)
    replace HZ := hid (HZ.out.to b6)
    clear b6
    have hq : (x.toList == S.toList) = false := by
      cases hq : (x.toList == S.toList)
      · rfl
      · exact absurd (((str_eq _ _).1 hq).symm.trans hxe.out) (HNO.out o d t f i z hok)
    have B5' := hid (st6b_below (B := w.heap.size) HZ.out (Nat.le_refl _) 0 0 0 0 0 0)
    have P5 := hid (Box6.cells (Box6.st HQ.out 0 0 0 0 0 0))
    obtain ⟨x0, x1, x2, x3, x4, x5⟩ := Box6.cells HX.out
    have xl := Box6.lt HX.out
    obtain ⟨q0, q1, q2, q3, q4, q5⟩ := Box6.cells HQ.out
    have ql := Box6.lt HQ.out
    have qf := Box6.frozen HQ.out
    go_wp2_with fail
    obtain ⟨r0, r1, r2, r3, r4, r5⟩ := P5.out
    unfold st6b at r0 r1 r2 r3 r4 r5
    refine bodyPost_ret (v := .tuple #[.agg #[.int .i64 0, .int .i64 0, .int .i64 0, .int .i64 0, .int .i64 0, .int .i64 0], .bool false]) (by simp [results, Tryd.results8, go_sem, r0, r1, r2, r3, r4, r5]) rfl ?_
    exact ⟨rfl, B5'.out⟩

set_option maxRecDepth 100000 in
set_option maxHeartbeats 4000000 in
theorem getLW (on zn : Nat) (d t f i : Int) (ps : List UInt8) (S : ByteArray) (hL : LW on zn d t f i ps S) (hS : S = lineS (on : Int) d t f i (zn : Int)) (w : World) :
    Calls Tryd.prog 8 #[.string S] w fun e w' => e = .returned (.tuple #[.agg #[.int .i64 (on : Int), .int .i64 d, .int .i64 t, .int .i64 f, .int .i64 i, .int .i64 (zn : Int)], .bool true]) ∧ Below w.heap.size w w' := by
  have hs : S.size ≤ 1048576 := by have := hL.hsz; omega
  have HL := hid hL
  have HS := hid hS
  clear hL hS
  go_enter Tryd.func8, Tryd.ntmps8
  go_wp2_with fail
  have hq : Box6 (w.alloc (.cells #[.int .i64 0, .int .i64 0, .int .i64 0, .int .i64 0, .int .i64 0, .int .i64 0] 25)) w.heap.size 0 0 0 0 0 0 := World.alloc_heap_new w _
  have hz : Below w.heap.size w (w.alloc (.cells #[.int .i64 0, .int .i64 0, .int .i64 0, .int .i64 0, .int .i64 0, .int .i64 0] 25)) := (Below.refl _ _).alloc (Nat.le_refl _) _
  have HQ := hid hq
  have HZ := hid hz
  clear hq hz
  generalize w.alloc (.cells #[.int .i64 0, .int .i64 0, .int .i64 0, .int .i64 0, .int .i64 0, .int .i64 0] 25) = w1 at *
  refine (cutE S w1 hs).mono ?_
  rintro e w2 ⟨⟨ws, a, c, rfl, l1, l6, hcut, hall, hown⟩, b2⟩
  replace HQ := hid (HQ.out.bel b2)
  replace HZ := hid (HZ.out.to b2)
  clear b2
  obtain ⟨g, hg, hsl⟩ : ∃ g, a = some ⟨g, 0, none⟩ ∧ SL w2 g ws := by
    have hown' := hown
    rcases hown.2 with ⟨_, h0⟩ | ⟨g, cap, cur, h0, _, hgb, _⟩
    · omega
    · simp only [Value.slice.injEq] at h0
      obtain ⟨rfl, _, _⟩ := h0
      refine ⟨g, rfl, (Array.getElem?_eq_some_iff.1 hgb).1, fun j hj => ?_⟩
      rw [hown'.cellAt j (by omega)]
      simp [List.getD, List.getElem?_eq_getElem hj]
  subst hg
  have HSL := hid hsl
  have HALL := hid hall
  have hW : ws = firstS on zn :: ps.map (wordP d t f i) := hcut.out _ ⟨by simp, by have := HL.out.hpl; simp; omega, by
    intro x hx
    rcases List.mem_cons.1 hx with rfl | hx
    · exact firstS_no _ _
    · obtain ⟨p, _, rfl⟩ := List.mem_map.1 hx
      exact wordP_no _ _ _ _ _, HL.out.hS⟩
  have HWS := hid hW
  have h0 : ws.getD 0 ⟨#[]⟩ = firstS on zn := by rw [hW]; rfl
  have HP0 := hid h0
  clear hown hsl hall hcut hW h0
  go_wp2_with fail
  refine (readE (PW on zn) ws g c _ HSL.out l1 l6 HALL.out (fun v h => pw0 HL.out.hon1 HL.out.hon2 HL.out.hfit v (by rw [HP0.out] at h; exact h)) (fun n o z hn h a b => pwn HL.out.hfit n o z hn h (by rw [HP0.out] at a; exact a) (by rw [HP0.out] at b; exact b)) (fun n o z v hn h a b => pwy HL.out.hon1 HL.out.hon2 HL.out.hz HL.out.hfit n o z v hn h (by rw [HP0.out] at a; exact a) (by rw [HP0.out] at b; exact b))).mono ?_
  rintro e w3 ⟨⟨o', d', t', f', i', z', hP, hR, rfl⟩, b3⟩
  obtain ⟨rfl, rfl⟩ := hP.out (fun _ => by have := HL.out.hz; omega)
  have hr := hR.out
  rw [HWS.out] at hr
  obtain ⟨rfl, rfl, rfl, rfl⟩ := rest_of HL.out hr
  clear hP hR hr HP0
  replace HQ := hid (HQ.out.bel b3)
  replace HZ := hid (HZ.out.to b3)
  clear b3 HSL HALL HWS
  go_wp2_with fail
  have hx : Box6 (w3.alloc (.cells #[.int .i64 (on : Int), .int .i64 d', .int .i64 t', .int .i64 f', .int .i64 i', .int .i64 (zn : Int)] 25)) w3.heap.size (on : Int) d' t' f' i' (zn : Int) := World.alloc_heap_new w3 _
  have ba : Below w3.heap.size w3 (w3.alloc (.cells #[.int .i64 (on : Int), .int .i64 d', .int .i64 t', .int .i64 f', .int .i64 i', .int .i64 (zn : Int)] 25)) := (Below.refl _ _).alloc (Nat.le_refl _) _
  have lXQ := Box6.lt HQ.out
  replace HQ := hid (HQ.out.bel ba)
  replace HZ := hid (HZ.out.to ba)
  have HX := hid hx
  clear hx ba
  generalize w3.alloc (.cells #[.int .i64 (on : Int), .int .i64 d', .int .i64 t', .int .i64 f', .int .i64 i', .int .i64 (zn : Int)] 25) = w4 at *
  generalize w3.heap.size = X at *
  refine (f28 (on : Int) d' t' f' i' (zn : Int) _).mono ?_
  rintro e w5 ⟨rfl, b5⟩
  replace HQ := hid (HQ.out.bel b5)
  replace HX := hid (HX.out.bel b5)
  replace HZ := hid (HZ.out.to b5)
  clear b5
  rw [HL.out.hok]
  obtain ⟨x0, x1, x2, x3, x4, x5⟩ := Box6.cells HX.out
  have xl := Box6.lt HX.out
  go_wp2_with fail
  clear x0 x1 x2 x3 x4 x5 xl
  refine (line_w (on : Int) d' t' f' i' (zn : Int) _ HL.out.hok).mono ?_
  rintro e w6 ⟨⟨x, hxs, hxe, rfl⟩, b6⟩
  replace HQ := hid (HQ.out.bel b6)
  replace HX := hid (HX.out.bel b6)
  replace HZ := hid (HZ.out.to b6)
  clear b6
  have hq : (x.toList == S.toList) = true := (str_eq _ _).2 (hxe.out.trans HS.out.symm)
  have B5' := hid (st6b_below (B := w.heap.size) HZ.out (Nat.le_refl _) (on : Int) d' t' f' i' (zn : Int))
  have P5 := hid (Box6.cells (Box6.st HQ.out (on : Int) d' t' f' i' (zn : Int)))
  obtain ⟨x0, x1, x2, x3, x4, x5⟩ := Box6.cells HX.out
  have xl := Box6.lt HX.out
  obtain ⟨q0, q1, q2, q3, q4, q5⟩ := Box6.cells HQ.out
  have ql := Box6.lt HQ.out
  have qf := Box6.frozen HQ.out
  go_wp2_with fail
  obtain ⟨r0, r1, r2, r3, r4, r5⟩ := P5.out
  unfold st6b at r0 r1 r2 r3 r4 r5
  refine bodyPost_ret (v := .tuple #[.agg #[.int .i64 (on : Int), .int .i64 d', .int .i64 t', .int .i64 f', .int .i64 i', .int .i64 (zn : Int)], .bool true]) (by simp [results, Tryd.results8, go_sem, r0, r1, r2, r3, r4, r5]) rfl ?_
  exact ⟨rfl, B5'.out⟩

theorem getS (o d t f i z : Int) (hok : sokB o d t f i z = true) (w : World) :
    Calls Tryd.prog 8 #[.string (lineS o d t f i z)] w fun e w' => e = .returned (.tuple #[.agg #[.int .i64 o, .int .i64 d, .int .i64 t, .int .i64 f, .int .i64 i, .int .i64 z], .bool true]) ∧ Below w.heap.size w w' := by
  obtain ⟨on, zn, ps, rfl, rfl, hL⟩ := line_words o d t f i z hok
  exact getLW on zn d t f i ps _ hL rfl w
end Go.Proofs.YtbbecofgmodfiaaDoor
