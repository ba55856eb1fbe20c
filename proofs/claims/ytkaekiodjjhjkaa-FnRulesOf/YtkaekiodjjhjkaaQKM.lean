/- The draw of a program of numbers. -/
import Derived.Test.YtkaekiodjjhjkaaQKA
import Derived.Test.YtkaekiodjjhjkaaQLRL
namespace Go.Proofs.Ytkaekiodjjhjkaa
open Go.RowKit
set_option linter.unusedVariables false
set_option linter.unusedSimpArgs false


def lenOf : Value → Nat | .slice _ n _ => n | _ => 0
theorem news6e (W : World) (o d s f i z : Int) {G : Nat} (hG : G = W.heap.size) : ∀ j u, [Value.int .i64 o, .int .i64 d, .int .i64 s, .int .i64 f, .int .i64 i, .int .i64 z][j]? = some u → (W.alloc (.cells #[.int .i64 o, .int .i64 d, .int .i64 s, .int .i64 f, .int .i64 i, .int .i64 z] 86)).cell? ((⟨G, 0, none⟩ : Addr).add j) = some u := by
  subst hG
  intro j u hj
  have hb : Box6 (W.alloc (.cells #[.int .i64 o, .int .i64 d, .int .i64 s, .int .i64 f, .int .i64 i, .int .i64 z] 86)) W.heap.size o d s f i z := World.alloc_heap_new W _
  obtain ⟨c0, c1, c2, c3, c4, c5⟩ := Box6.cells hb
  rw [Addr.add_lit, Nat.zero_add]
  match j, hj with
  | 0, hj => simp at hj; rw [c0, hj]
  | 1, hj => simp at hj; rw [c1, hj]
  | 2, hj => simp at hj; rw [c2, hj]
  | 3, hj => simp at hj; rw [c3, hj]
  | 4, hj => simp at hj; rw [c4, hj]
  | 5, hj => simp at hj; rw [c5, hj]
  | j + 6, hj => simp at hj
section
variable {w0 w w' w'' : World} {B : Nat} {a : Option Addr} {len cap p q : Nat}
theorem K3.grown (h : RS w0 w B a len cap p) (k : K3 w0 w w' B a len cap q) : w.grownBy w' (some B) :=
  ⟨k.rs.bel.os.trans h.bel.os.symm, k.rs.bel.tape.trans h.bel.tape.symm, k.rs.bel.output.trans h.bel.output.symm, k.kp.1, fun b hb hne => k.kp.2 b hb (fun e => hne (e ▸ rfl))⟩
theorem row_kept {e : TypeId} {base size n : Nat} {v : Value} {xs : List Value} (hne : (67 : TypeId) ≠ e) (h : RS w0 w B a len cap p) (k : K3 w0 w w' B a len cap q) (hr : w.ownsRow base e size v n xs) : w'.ownsRow base e size v n xs := by
  refine hr.kept (K3.grown h k) (.inr ?_)
  intro hb
  rcases hr.2 with ⟨rfl, _⟩ | ⟨g, cp, cur, rfl, _, hg, _⟩
  · simp [Value.ownBlock] at hb
  · simp only [Value.ownBlock, Option.some.injEq] at hb
    subst hb
    rw [h.box] at hg
    simp only [Option.some.injEq, Obj.cells.injEq] at hg
    exact hne hg.2.1
theorem K3.belowN (h : K3 w0 w w' B a len cap p) (hb : Below w.heap.size w' w'') : K3 w0 w w'' B a len cap p :=
  ⟨⟨(hb.block B h.lt).trans h.rs.box, h.rs.ge, h.rs.bel.trans (hb.mono h.le), h.rs.src, h.rs.le⟩, ⟨Nat.le_trans h.kp.1 hb.size, fun k hk hB => (hb.block k hk).trans (h.kp.2 k hk hB)⟩, h.lt, h.le⟩
end
theorem row_lt {w : World} {base e sz n c : Nat} {x : Option Addr} {xs : List Value} (h : w.ownsRow base e sz (.slice x n c) n xs) : ∀ g o, x = some ⟨g, o, none⟩ → g < w.heap.size := by
  intro g o e1
  rcases h.2 with ⟨h1, _⟩ | ⟨g', cp, cur, h1, _, hg, _⟩
  · simp only [Value.slice.injEq] at h1
    rw [h1.1] at e1; cases e1
  · simp only [Value.slice.injEq] at h1
    rw [h1.1] at e1
    simp only [Option.some.injEq, Addr.mk.injEq] at e1
    rw [← e1.1]
    exact (Array.getElem?_eq_some_iff.1 hg).1
theorem own_set6 {w : World} {base e sz n c X : Nat} {x : Option Addr} {xs : List Value} (h : w.ownsRow base e sz (.slice x n c) n xs) (hne : ∀ g o, x = some ⟨g, o, none⟩ → g < X) (j : Nat) (v : Value) : (w.setCell ⟨X, j, none⟩ v).ownsRow base e sz (.slice x n c) n xs := by
  refine h.kept (row := some X) ⟨rfl, rfl, rfl, by show w.heap.size ≤ (w.heap.modify X _).size; rw [Array.size_modify]; exact Nat.le_refl _, fun b _ hb => Below.heap_setCell w ⟨X, j, none⟩ v b (fun e => hb (e ▸ rfl))⟩ ?_
  rcases h.2 with ⟨h1, _⟩ | ⟨g', cp, cur, h1, _⟩
  · simp only [Value.slice.injEq] at h1
    left; rw [h1.1]; rfl
  · simp only [Value.slice.injEq] at h1
    right
    rw [h1.1]
    have := hne g' 0 h1.1
    show some g' ≠ some X
    simp; omega
/-- Some ops, not none, not many. -/
def AnQ (base : Nat) (w' : World) (e : Ending) : Prop := ∃ (xs : List I6) (x : Option Addr) (c : Nat), e = .returned (.slice x xs.length c) ∧ 1 ≤ xs.length ∧ xs.length ≤ 40 ∧ w'.ownsRow base 86 6 (.slice x xs.length c) xs.length (flat xs)

def l4 : List ByteArray := [⟨#[109, 111, 118, 32, 114, 48, 32, 49]⟩, ⟨#[108, 111, 97, 100, 49, 32, 114, 54, 32, 114, 49, 32, 48]⟩, ⟨#[108, 111, 97, 100, 52, 32, 114, 55, 32, 114, 49, 32, 52]⟩, ⟨#[109, 111, 118, 32, 114, 56, 32, 53]⟩]
set_option maxRecDepth 100000 in
set_option maxHeartbeats 4000000 in
theorem make_k {w0 w : World} {B : Nat} {a : Option Addr} {len cap p : Nat} (h : RS w0 w B a len cap p) (hp : p ≤ 700000) :
    Calls Try.prog 50 #[.pointer (some ⟨B, 0, none⟩)] w fun e w' => AnQ w.heap.size w' e ∧ ∃ q, q ≤ p + 400 ∧ K3 w0 w w' B a len cap q := by
  obtain ⟨i0, hi, hz0, hz1, hz2⟩ := info_parts info25
  have HSL := hid (SL.new w l4 9)
  have HD := hid ((K3.start h).alloc (.cells (l4.map Value.string).toArray 9 (0, 0)))
  have lB := h.lt
  have lw0 : w.heap.size ≤ (w.alloc (.cells (l4.map Value.string).toArray 9 (0, 0))).heap.size := by simp
  clear h
  go_enter Try.func50, Try.ntmps50
  go_wp2_with fail
  refine (rdl_w l4 w.heap.size 4 _ HSL.out (by decide) (by decide)).mono ?_
  rintro e w1 ⟨⟨xs0, v0, rfl, hxl, hr⟩, b1⟩
  have HR := hid (own_mono hr lw0)
  replace HD := hid (HD.out.below b1)
  have hx4 : xs0.length = 4 := hxl
  have HX4 := hid hx4
  obtain ⟨a0, c0, rfl⟩ := own_slice HR.out
  clear b1 hr hxl hx4 HSL
  go_wp2_with fail
  refine (pick_k HD.out.rs (by omega) 14 (by omega) (by omega)).mono ?_
  rintro e w2 ⟨m, rfl, hm, kk⟩
  replace HR := hid (row_kept (by decide) HD.out.rs kk HR.out)
  replace HD := hid (HD.out.draw kk)
  clear kk
  have hm0 : (0 : Int) ≤ (m : Int) := by omega
  go_wp2_with fail
  go_loopw [3] (fun out wr => ∃ (xs : List I6) (q : Nat), wr.ownsRow w.heap.size 86 6 out xs.length (flat xs) ∧ K3 w0 w wr B a len cap q ∧ 4 ≤ xs.length ∧ xs.length ≤ m + 8 ∧ q ≤ p + 1 + 10 * xs.length) (fun out _ => 40 - lenOf out)
  case atStart => exact ⟨xs0, _, HR.out, HD.out, by have := HX4.out; omega, by have := HX4.out; omega, by omega⟩
  case round =>
    clear HR HD
    obtain ⟨xs, q, hr, hk, h4, h8, hq⟩ := hrel
    obtain ⟨a1, c1, rfl⟩ := own_slice hr
    have HR := hid hr
    have HD := hid hk
    clear hr hk
    have hmi : (m : Int) < 14 := by omega
    by_cases hlt : xs.length < m + 8
    · have hlt' : (xs.length : Int) < 4 + (m : Int) + 4 := by omega
      have hl0 : (0 : Int) ≤ (xs.length : Int) := by omega
      generalize (m : Int) = mi at *
      go_wp2_with fail
      refine (pick_k HD.out.rs (by omega) 7 (by omega) (by omega)).mono ?_
      rintro e wp1 ⟨m7, rfl, hm7, kk⟩
      replace HR := hid (row_kept (by decide) HD.out.rs kk HR.out)
      replace HD := hid (HD.out.draw kk)
      clear kk
      have hy0 : (0 : Int) ≤ (m7 : Int) := by omega
      generalize (m7 : Int) = y at *
      have hyc : y = 0 ∨ y = 1 ∨ y = 2 ∨ y = 3 ∨ 4 ≤ y := by omega
      rcases hyc with rfl | rfl | rfl | rfl | h4y
      · skip
        go_wp2_with fail
        refine (pick_k HD.out.rs (by omega) 4 (by omega) (by omega)).mono ?_
        rintro e wq1 ⟨m1, rfl, hm1, kk⟩
        replace HR := hid (row_kept (by decide) HD.out.rs kk HR.out)
        replace HD := hid (HD.out.draw kk)
        clear kk
        have hm0 : (0 : Int) ≤ (m1 : Int) := by omega
        generalize (m1 : Int) = u1 at *
        go_wp2_with fail
        refine (one_k HD.out.rs (by omega) [0, 6, 7, 8] 3 (by decide) (by decide)).mono ?_
        rintro e wq2 ⟨v1, hv1, rfl, kk⟩
        replace HR := hid (row_kept (by decide) HD.out.rs kk HR.out)
        replace HD := hid (HD.out.draw kk)
        clear kk
        clear hv1
        go_wp2_with fail
        refine (imm_k HD.out.rs (by omega)).mono ?_
        rintro e wq3 ⟨v2, rfl, hv2, kk⟩
        replace HR := hid (row_kept (by decide) HD.out.rs kk HR.out)
        replace HD := hid (HD.out.draw kk)
        clear kk
        go_wp2_with fail
        refine (pick_k HD.out.rs (by omega) _ (by omega) (by omega)).mono ?_
        rintro e wq4 ⟨m3, rfl, hm3, kk⟩
        replace HR := hid (row_kept (by decide) HD.out.rs kk HR.out)
        replace HD := hid (HD.out.draw kk)
        clear kk
        have hm30 : (0 : Int) ≤ (m3 : Int) := by omega
        generalize (m3 : Int) = u3 at *
        go_wp2_with fail
        have hx : Box6 (wq4.alloc (.cells #[.int .i64 (12 + u1), .int .i64 v1, .int .i64 (-1), .int .i64 u3, .int .i64 (v2 : Int), .int .i64 0] 86)) wq4.heap.size (12 + u1) v1 (-1) u3 (v2 : Int) 0 := World.alloc_heap_new _ _
        have ba : Below wq4.heap.size wq4 (wq4.alloc (.cells #[.int .i64 (12 + u1), .int .i64 v1, .int .i64 (-1), .int .i64 u3, .int .i64 (v2 : Int), .int .i64 0] 86)) := (Below.refl _ _).alloc (Nat.le_refl _) _
        have lX0 := HD.out.kp.1
        have hne := row_lt HR.out
        have HX := hid hx
        replace HR := hid (own_below HR.out ba)
        replace HD := hid (HD.out.below ba)
        clear hx ba
        generalize wq4.alloc (.cells #[.int .i64 (12 + u1), .int .i64 v1, .int .i64 (-1), .int .i64 u3, .int .i64 (v2 : Int), .int .i64 0] 86) = wx at *
        generalize wq4.heap.size = X at *
        refine (pick_k HD.out.rs (by omega) 3 (by omega) (by omega)).mono ?_
        rintro e wq5 ⟨m4, rfl, hm4, kk⟩
        replace HR := hid (row_kept (by decide) HD.out.rs kk HR.out)
        replace HX := hid (HX.out.k3 (by omega) kk)
        replace HD := hid (HD.out.draw kk)
        clear kk
        have hm40 : (0 : Int) ≤ (m4 : Int) := by omega
        generalize (m4 : Int) = u4 at *
        have hc4 : u4 = 0 ∨ 0 < u4 := by omega
        rcases hc4 with rfl | h4
        · skip
          obtain ⟨x0, x1, x2, x3, x4, x5⟩ := Box6.cells HX.out
          have xl := Box6.lt HX.out
          have xf := Box6.frozen HX.out
          go_wp2_with fail
          clear x0 x1 x2 x3 x4 x5 xl xf
          refine (one_k HD.out.rs (by omega) [0, 6, 7, 8] 3 (by decide) (by decide)).mono ?_
          rintro e wq6 ⟨v5, hv5, rfl, kk⟩
          replace HR := hid (row_kept (by decide) HD.out.rs kk HR.out)
          replace HX := hid (HX.out.k3 (by omega) kk)
          replace HD := hid (HD.out.draw kk)
          clear kk
          clear hv5
          have h1 := Box6.set4 0 (Box6.set2 v5 HX.out)
          have h2 := own_set6 (own_set6 HR.out hne 2 (.int .i64 v5)) hne 4 (.int .i64 0)
          have h3 := (HD.out.set ⟨X, 2, none⟩ (.int .i64 v5) (by show w.heap.size ≤ X; omega)).set ⟨X, 4, none⟩ (.int .i64 0) (by show w.heap.size ≤ X; omega)
          have HX2 := hid h1
          have HR2 := hid h2
          have HD2 := hid h3
          clear h1 h2 h3
          have lw : w.heap.size ≤ wq6.heap.size := HD.out.kp.1
          obtain ⟨x0, x1, x2, x3, x4, x5⟩ := Box6.cells HX.out
          have xl := Box6.lt HX.out
          have xf := Box6.frozen HX.out
          go_wp2_with (first | (at_builtin; go_must (refine wpList_append_own _ rfl _ _ 40 rfl w.heap.size 86 i0 (.agg #[.int .i64 0, .int .i64 0, .int .i64 0, .int .i64 0, .int .i64 0, .int .i64 0]) 6 48 Try.underlying40 hi hz0 hz1 hz2 rfl (by decide) _ _ _ rfl (World.ownsRow.alloc HR2.out _) ⟨wq6.heap.size, 0, none⟩ 1 1 [.int .i64 (12 + u1), .int .i64 v1, .int .i64 v5, .int .i64 u3, .int .i64 0, .int .i64 0] rfl (by simp) (news6e ((wq6.setCell ⟨X, 2, none⟩ (.int .i64 v5)).setCell ⟨X, 4, none⟩ (.int .i64 0)) (12 + u1) v1 v5 u3 0 0 (by simp)) (by simp [Value.oneCell']) (by unfold maxLen; omega) (by omega) (by simp; omega) ?_)))
          clear x0 x1 x2 x3 x4 x5 xl xf
          intro v' wa hown hgrow _
          have hown' : wa.ownsRow w.heap.size 86 6 v' (xs ++ [(⟨(12 + u1), v1, v5, u3, 0, 0⟩ : I6)]).length (flat (xs ++ [(⟨(12 + u1), v1, v5, u3, 0, 0⟩ : I6)])) := by rw [flat_snoc]; simpa using hown
          have kd := HD2.out.belowN (((Below.refl _ _).alloc (by simp; omega) _).grown hgrow (by simp; omega) (own_base HR2.out))
          obtain ⟨a9, c9, rfl⟩ := own_slice hown'
          have HR9 := hid hown'
          have HD9 := hid kd
          clear hown hown' hgrow kd
          go_wp2_with fail
          go_roundw
          case rel => exact ⟨xs ++ [(⟨(12 + u1), v1, v5, u3, 0, 0⟩ : I6)], _, HR9.out, HD9.out, by rw [List.length_append]; simp only [List.length_cons, List.length_nil]; omega, by rw [List.length_append]; simp only [List.length_cons, List.length_nil]; omega, by rw [List.length_append]; simp only [List.length_cons, List.length_nil]; omega⟩
          case measure => simp [lenOf]; omega
        · have h4' : (u4 == 0) = false := by simp; omega
          have lw : w.heap.size ≤ wq5.heap.size := HD.out.kp.1
          obtain ⟨x0, x1, x2, x3, x4, x5⟩ := Box6.cells HX.out
          have xl := Box6.lt HX.out
          have xf := Box6.frozen HX.out
          go_wp2_with (first | (at_builtin; go_must (refine wpList_append_own _ rfl _ _ 40 rfl w.heap.size 86 i0 (.agg #[.int .i64 0, .int .i64 0, .int .i64 0, .int .i64 0, .int .i64 0, .int .i64 0]) 6 48 Try.underlying40 hi hz0 hz1 hz2 rfl (by decide) _ _ _ rfl (World.ownsRow.alloc HR.out _) ⟨wq5.heap.size, 0, none⟩ 1 1 [.int .i64 (12 + u1), .int .i64 v1, .int .i64 (-1), .int .i64 u3, .int .i64 (v2 : Int), .int .i64 0] rfl (by simp) (news6e wq5 (12 + u1) v1 (-1) u3 (v2 : Int) 0 rfl) (by simp [Value.oneCell']) (by unfold maxLen; omega) (by omega) (by simp; omega) ?_)))
          clear x0 x1 x2 x3 x4 x5 xl xf
          intro v' wa hown hgrow _
          have hown' : wa.ownsRow w.heap.size 86 6 v' (xs ++ [(⟨(12 + u1), v1, (-1), u3, (v2 : Int), 0⟩ : I6)]).length (flat (xs ++ [(⟨(12 + u1), v1, (-1), u3, (v2 : Int), 0⟩ : I6)])) := by rw [flat_snoc]; simpa using hown
          have kd := HD.out.belowN (((Below.refl _ _).alloc lw _).grown hgrow (by simp; omega) (own_base HR.out))
          obtain ⟨a9, c9, rfl⟩ := own_slice hown'
          have HR9 := hid hown'
          have HD9 := hid kd
          clear hown hown' hgrow kd
          go_wp2_with fail
          go_roundw
          case rel => exact ⟨xs ++ [(⟨(12 + u1), v1, (-1), u3, (v2 : Int), 0⟩ : I6)], _, HR9.out, HD9.out, by rw [List.length_append]; simp only [List.length_cons, List.length_nil]; omega, by rw [List.length_append]; simp only [List.length_cons, List.length_nil]; omega, by rw [List.length_append]; simp only [List.length_cons, List.length_nil]; omega⟩
          case measure => simp [lenOf]; omega
      · skip
        go_wp2_with fail
        refine (pick_k HD.out.rs (by omega) 4 (by omega) (by omega)).mono ?_
        rintro e wq1 ⟨m1, rfl, hm1, kk⟩
        replace HR := hid (row_kept (by decide) HD.out.rs kk HR.out)
        replace HD := hid (HD.out.draw kk)
        clear kk
        have hm0 : (0 : Int) ≤ (m1 : Int) := by omega
        generalize (m1 : Int) = u1 at *
        go_wp2_with fail
        refine (one_k HD.out.rs (by omega) [0, 6, 7, 8] 3 (by decide) (by decide)).mono ?_
        rintro e wq2 ⟨v1, hv1, rfl, kk⟩
        replace HR := hid (row_kept (by decide) HD.out.rs kk HR.out)
        replace HD := hid (HD.out.draw kk)
        clear kk
        clear hv1
        go_wp2_with fail
        refine (imm_k HD.out.rs (by omega)).mono ?_
        rintro e wq3 ⟨v2, rfl, hv2, kk⟩
        replace HR := hid (row_kept (by decide) HD.out.rs kk HR.out)
        replace HD := hid (HD.out.draw kk)
        clear kk
        go_wp2_with fail
        refine (pick_k HD.out.rs (by omega) _ (by omega) (by omega)).mono ?_
        rintro e wq4 ⟨m3, rfl, hm3, kk⟩
        replace HR := hid (row_kept (by decide) HD.out.rs kk HR.out)
        replace HD := hid (HD.out.draw kk)
        clear kk
        have hm30 : (0 : Int) ≤ (m3 : Int) := by omega
        generalize (m3 : Int) = u3 at *
        go_wp2_with fail
        have hx : Box6 (wq4.alloc (.cells #[.int .i64 (12 + u1), .int .i64 v1, .int .i64 (-1), .int .i64 u3, .int .i64 (v2 : Int), .int .i64 0] 86)) wq4.heap.size (12 + u1) v1 (-1) u3 (v2 : Int) 0 := World.alloc_heap_new _ _
        have ba : Below wq4.heap.size wq4 (wq4.alloc (.cells #[.int .i64 (12 + u1), .int .i64 v1, .int .i64 (-1), .int .i64 u3, .int .i64 (v2 : Int), .int .i64 0] 86)) := (Below.refl _ _).alloc (Nat.le_refl _) _
        have lX0 := HD.out.kp.1
        have hne := row_lt HR.out
        have HX := hid hx
        replace HR := hid (own_below HR.out ba)
        replace HD := hid (HD.out.below ba)
        clear hx ba
        generalize wq4.alloc (.cells #[.int .i64 (12 + u1), .int .i64 v1, .int .i64 (-1), .int .i64 u3, .int .i64 (v2 : Int), .int .i64 0] 86) = wx at *
        generalize wq4.heap.size = X at *
        refine (pick_k HD.out.rs (by omega) 3 (by omega) (by omega)).mono ?_
        rintro e wq5 ⟨m4, rfl, hm4, kk⟩
        replace HR := hid (row_kept (by decide) HD.out.rs kk HR.out)
        replace HX := hid (HX.out.k3 (by omega) kk)
        replace HD := hid (HD.out.draw kk)
        clear kk
        have hm40 : (0 : Int) ≤ (m4 : Int) := by omega
        generalize (m4 : Int) = u4 at *
        have hc4 : u4 = 0 ∨ 0 < u4 := by omega
        rcases hc4 with rfl | h4
        · skip
          obtain ⟨x0, x1, x2, x3, x4, x5⟩ := Box6.cells HX.out
          have xl := Box6.lt HX.out
          have xf := Box6.frozen HX.out
          go_wp2_with fail
          clear x0 x1 x2 x3 x4 x5 xl xf
          refine (one_k HD.out.rs (by omega) [0, 6, 7, 8] 3 (by decide) (by decide)).mono ?_
          rintro e wq6 ⟨v5, hv5, rfl, kk⟩
          replace HR := hid (row_kept (by decide) HD.out.rs kk HR.out)
          replace HX := hid (HX.out.k3 (by omega) kk)
          replace HD := hid (HD.out.draw kk)
          clear kk
          clear hv5
          have h1 := Box6.set4 0 (Box6.set2 v5 HX.out)
          have h2 := own_set6 (own_set6 HR.out hne 2 (.int .i64 v5)) hne 4 (.int .i64 0)
          have h3 := (HD.out.set ⟨X, 2, none⟩ (.int .i64 v5) (by show w.heap.size ≤ X; omega)).set ⟨X, 4, none⟩ (.int .i64 0) (by show w.heap.size ≤ X; omega)
          have HX2 := hid h1
          have HR2 := hid h2
          have HD2 := hid h3
          clear h1 h2 h3
          have lw : w.heap.size ≤ wq6.heap.size := HD.out.kp.1
          obtain ⟨x0, x1, x2, x3, x4, x5⟩ := Box6.cells HX.out
          have xl := Box6.lt HX.out
          have xf := Box6.frozen HX.out
          go_wp2_with (first | (at_builtin; go_must (refine wpList_append_own _ rfl _ _ 40 rfl w.heap.size 86 i0 (.agg #[.int .i64 0, .int .i64 0, .int .i64 0, .int .i64 0, .int .i64 0, .int .i64 0]) 6 48 Try.underlying40 hi hz0 hz1 hz2 rfl (by decide) _ _ _ rfl (World.ownsRow.alloc HR2.out _) ⟨wq6.heap.size, 0, none⟩ 1 1 [.int .i64 (12 + u1), .int .i64 v1, .int .i64 v5, .int .i64 u3, .int .i64 0, .int .i64 0] rfl (by simp) (news6e ((wq6.setCell ⟨X, 2, none⟩ (.int .i64 v5)).setCell ⟨X, 4, none⟩ (.int .i64 0)) (12 + u1) v1 v5 u3 0 0 (by simp)) (by simp [Value.oneCell']) (by unfold maxLen; omega) (by omega) (by simp; omega) ?_)))
          clear x0 x1 x2 x3 x4 x5 xl xf
          intro v' wa hown hgrow _
          have hown' : wa.ownsRow w.heap.size 86 6 v' (xs ++ [(⟨(12 + u1), v1, v5, u3, 0, 0⟩ : I6)]).length (flat (xs ++ [(⟨(12 + u1), v1, v5, u3, 0, 0⟩ : I6)])) := by rw [flat_snoc]; simpa using hown
          have kd := HD2.out.belowN (((Below.refl _ _).alloc (by simp; omega) _).grown hgrow (by simp; omega) (own_base HR2.out))
          obtain ⟨a9, c9, rfl⟩ := own_slice hown'
          have HR9 := hid hown'
          have HD9 := hid kd
          clear hown hown' hgrow kd
          go_wp2_with fail
          go_roundw
          case rel => exact ⟨xs ++ [(⟨(12 + u1), v1, v5, u3, 0, 0⟩ : I6)], _, HR9.out, HD9.out, by rw [List.length_append]; simp only [List.length_cons, List.length_nil]; omega, by rw [List.length_append]; simp only [List.length_cons, List.length_nil]; omega, by rw [List.length_append]; simp only [List.length_cons, List.length_nil]; omega⟩
          case measure => simp [lenOf]; omega
        · have h4' : (u4 == 0) = false := by simp; omega
          have lw : w.heap.size ≤ wq5.heap.size := HD.out.kp.1
          obtain ⟨x0, x1, x2, x3, x4, x5⟩ := Box6.cells HX.out
          have xl := Box6.lt HX.out
          have xf := Box6.frozen HX.out
          go_wp2_with (first | (at_builtin; go_must (refine wpList_append_own _ rfl _ _ 40 rfl w.heap.size 86 i0 (.agg #[.int .i64 0, .int .i64 0, .int .i64 0, .int .i64 0, .int .i64 0, .int .i64 0]) 6 48 Try.underlying40 hi hz0 hz1 hz2 rfl (by decide) _ _ _ rfl (World.ownsRow.alloc HR.out _) ⟨wq5.heap.size, 0, none⟩ 1 1 [.int .i64 (12 + u1), .int .i64 v1, .int .i64 (-1), .int .i64 u3, .int .i64 (v2 : Int), .int .i64 0] rfl (by simp) (news6e wq5 (12 + u1) v1 (-1) u3 (v2 : Int) 0 rfl) (by simp [Value.oneCell']) (by unfold maxLen; omega) (by omega) (by simp; omega) ?_)))
          clear x0 x1 x2 x3 x4 x5 xl xf
          intro v' wa hown hgrow _
          have hown' : wa.ownsRow w.heap.size 86 6 v' (xs ++ [(⟨(12 + u1), v1, (-1), u3, (v2 : Int), 0⟩ : I6)]).length (flat (xs ++ [(⟨(12 + u1), v1, (-1), u3, (v2 : Int), 0⟩ : I6)])) := by rw [flat_snoc]; simpa using hown
          have kd := HD.out.belowN (((Below.refl _ _).alloc lw _).grown hgrow (by simp; omega) (own_base HR.out))
          obtain ⟨a9, c9, rfl⟩ := own_slice hown'
          have HR9 := hid hown'
          have HD9 := hid kd
          clear hown hown' hgrow kd
          go_wp2_with fail
          go_roundw
          case rel => exact ⟨xs ++ [(⟨(12 + u1), v1, (-1), u3, (v2 : Int), 0⟩ : I6)], _, HR9.out, HD9.out, by rw [List.length_append]; simp only [List.length_cons, List.length_nil]; omega, by rw [List.length_append]; simp only [List.length_cons, List.length_nil]; omega, by rw [List.length_append]; simp only [List.length_cons, List.length_nil]; omega⟩
          case measure => simp [lenOf]; omega
      · skip
        go_wp2_with fail
        refine (one_k HD.out.rs (by omega) [0, 6, 7, 8] 3 (by decide) (by decide)).mono ?_
        rintro e wq1 ⟨v1, hv1, rfl, kk⟩
        replace HR := hid (row_kept (by decide) HD.out.rs kk HR.out)
        replace HD := hid (HD.out.draw kk)
        clear kk
        clear hv1
        go_wp2_with fail
        refine (one_k HD.out.rs (by omega) [-4, -8, -2] 3 (by decide) (by decide)).mono ?_
        rintro e wq2 ⟨v2, hv2, rfl, kk⟩
        replace HR := hid (row_kept (by decide) HD.out.rs kk HR.out)
        replace HD := hid (HD.out.draw kk)
        clear kk
        clear hv2
        go_wp2_with fail
        refine (one_k HD.out.rs (by omega) [1, 2] 3 (by decide) (by decide)).mono ?_
        rintro e wq3 ⟨v3, hv3, rfl, kk⟩
        replace HR := hid (row_kept (by decide) HD.out.rs kk HR.out)
        replace HD := hid (HD.out.draw kk)
        clear kk
        clear hv3
        have lw : w.heap.size ≤ wq3.heap.size := HD.out.kp.1
        go_wp2_with (first | (at_builtin; go_must (refine wpList_append_own _ rfl _ _ 40 rfl w.heap.size 86 i0 (.agg #[.int .i64 0, .int .i64 0, .int .i64 0, .int .i64 0, .int .i64 0, .int .i64 0]) 6 48 Try.underlying40 hi hz0 hz1 hz2 rfl (by decide) _ _ _ rfl (World.ownsRow.alloc HR.out _) ⟨wq3.heap.size, 0, none⟩ 1 1 [.int .i64 18, .int .i64 10, .int .i64 v1, .int .i64 v2, .int .i64 0, .int .i64 v3] rfl (by simp) (news6e wq3 18 10 v1 v2 0 v3 rfl) (by simp [Value.oneCell']) (by unfold maxLen; omega) (by omega) (by simp; omega) ?_)))
        intro v' wa hown hgrow _
        have hown' : wa.ownsRow w.heap.size 86 6 v' (xs ++ [(⟨18, 10, v1, v2, 0, v3⟩ : I6)]).length (flat (xs ++ [(⟨18, 10, v1, v2, 0, v3⟩ : I6)])) := by rw [flat_snoc]; simpa using hown
        have kd := HD.out.belowN (((Below.refl _ _).alloc lw _).grown hgrow (by simp; omega) (own_base HR.out))
        obtain ⟨a9, c9, rfl⟩ := own_slice hown'
        have HR9 := hid hown'
        have HD9 := hid kd
        clear hown hown' hgrow kd
        go_wp2_with fail
        go_roundw
        case rel => exact ⟨xs ++ [(⟨18, 10, v1, v2, 0, v3⟩ : I6)], _, HR9.out, HD9.out, by rw [List.length_append]; simp only [List.length_cons, List.length_nil]; omega, by rw [List.length_append]; simp only [List.length_cons, List.length_nil]; omega, by rw [List.length_append]; simp only [List.length_cons, List.length_nil]; omega⟩
        case measure => simp [lenOf]; omega
      · skip
        go_wp2_with fail
        refine (one_k HD.out.rs (by omega) [0, 6, 8] 3 (by decide) (by decide)).mono ?_
        rintro e wq1 ⟨v1, hv1, rfl, kk⟩
        replace HR := hid (row_kept (by decide) HD.out.rs kk HR.out)
        replace HD := hid (HD.out.draw kk)
        clear kk
        clear hv1
        go_wp2_with fail
        refine (one_k HD.out.rs (by omega) [1, 10, 1] 3 (by decide) (by decide)).mono ?_
        rintro e wq2 ⟨v2, hv2, rfl, kk⟩
        replace HR := hid (row_kept (by decide) HD.out.rs kk HR.out)
        replace HD := hid (HD.out.draw kk)
        clear kk
        clear hv2
        go_wp2_with fail
        refine (one_k HD.out.rs (by omega) [0, 3, 8] 3 (by decide) (by decide)).mono ?_
        rintro e wq3 ⟨v3, hv3, rfl, kk⟩
        replace HR := hid (row_kept (by decide) HD.out.rs kk HR.out)
        replace HD := hid (HD.out.draw kk)
        clear kk
        clear hv3
        go_wp2_with fail
        refine (one_k HD.out.rs (by omega) [1, 2, 4] 3 (by decide) (by decide)).mono ?_
        rintro e wq4 ⟨v4, hv4, rfl, kk⟩
        replace HR := hid (row_kept (by decide) HD.out.rs kk HR.out)
        replace HD := hid (HD.out.draw kk)
        clear kk
        clear hv4
        have lw : w.heap.size ≤ wq4.heap.size := HD.out.kp.1
        go_wp2_with (first | (at_builtin; go_must (refine wpList_append_own _ rfl _ _ 40 rfl w.heap.size 86 i0 (.agg #[.int .i64 0, .int .i64 0, .int .i64 0, .int .i64 0, .int .i64 0, .int .i64 0]) 6 48 Try.underlying40 hi hz0 hz1 hz2 rfl (by decide) _ _ _ rfl (World.ownsRow.alloc HR.out _) ⟨wq4.heap.size, 0, none⟩ 1 1 [.int .i64 17, .int .i64 v1, .int .i64 v2, .int .i64 v3, .int .i64 0, .int .i64 v4] rfl (by simp) (news6e wq4 17 v1 v2 v3 0 v4 rfl) (by simp [Value.oneCell']) (by unfold maxLen; omega) (by omega) (by simp; omega) ?_)))
        intro v' wa hown hgrow _
        have hown' : wa.ownsRow w.heap.size 86 6 v' (xs ++ [(⟨17, v1, v2, v3, 0, v4⟩ : I6)]).length (flat (xs ++ [(⟨17, v1, v2, v3, 0, v4⟩ : I6)])) := by rw [flat_snoc]; simpa using hown
        have kd := HD.out.belowN (((Below.refl _ _).alloc lw _).grown hgrow (by simp; omega) (own_base HR.out))
        obtain ⟨a9, c9, rfl⟩ := own_slice hown'
        have HR9 := hid hown'
        have HD9 := hid kd
        clear hown hown' hgrow kd
        go_wp2_with fail
        go_roundw
        case rel => exact ⟨xs ++ [(⟨17, v1, v2, v3, 0, v4⟩ : I6)], _, HR9.out, HD9.out, by rw [List.length_append]; simp only [List.length_cons, List.length_nil]; omega, by rw [List.length_append]; simp only [List.length_cons, List.length_nil]; omega, by rw [List.length_append]; simp only [List.length_cons, List.length_nil]; omega⟩
        case measure => simp [lenOf]; omega
      · have y0 : (y == 0) = false := by simp; omega
        have y1 : (y == 1) = false := by simp; omega
        have y2 : (y == 2) = false := by simp; omega
        have y3 : (y == 3) = false := by simp; omega
        go_wp2_with fail
        refine (alu_k HD.out.rs (by omega)).mono ?_
        rintro e wq1 ⟨⟨z0, z1, z2, z3, z4, z5, rfl⟩, q2, hq2, kk⟩
        replace HR := hid (row_kept (by decide) HD.out.rs kk HR.out)
        replace HD := hid (HD.out.draw kk)
        clear kk
        have lw : w.heap.size ≤ wq1.heap.size := HD.out.kp.1
        go_wp2_with (first | (at_builtin; go_must (refine wpList_append_own _ rfl _ _ 40 rfl w.heap.size 86 i0 (.agg #[.int .i64 0, .int .i64 0, .int .i64 0, .int .i64 0, .int .i64 0, .int .i64 0]) 6 48 Try.underlying40 hi hz0 hz1 hz2 rfl (by decide) _ _ _ rfl (World.ownsRow.alloc HR.out _) ⟨wq1.heap.size, 0, none⟩ 1 1 [.int .i64 z0, .int .i64 z1, .int .i64 z2, .int .i64 z3, .int .i64 z4, .int .i64 z5] rfl (by simp) (news6e wq1 z0 z1 z2 z3 z4 z5 rfl) (by simp [Value.oneCell']) (by unfold maxLen; omega) (by omega) (by simp; omega) ?_)))
        intro v' wa hown hgrow _
        have hown' : wa.ownsRow w.heap.size 86 6 v' (xs ++ [(⟨z0, z1, z2, z3, z4, z5⟩ : I6)]).length (flat (xs ++ [(⟨z0, z1, z2, z3, z4, z5⟩ : I6)])) := by rw [flat_snoc]; simpa using hown
        have kd := HD.out.belowN (((Below.refl _ _).alloc lw _).grown hgrow (by simp; omega) (own_base HR.out))
        obtain ⟨a9, c9, rfl⟩ := own_slice hown'
        have HR9 := hid hown'
        have HD9 := hid kd
        clear hown hown' hgrow kd
        go_wp2_with fail
        go_roundw
        case rel => exact ⟨xs ++ [(⟨z0, z1, z2, z3, z4, z5⟩ : I6)], _, HR9.out, HD9.out, by rw [List.length_append]; simp only [List.length_cons, List.length_nil]; omega, by rw [List.length_append]; simp only [List.length_cons, List.length_nil]; omega, by rw [List.length_append]; simp only [List.length_cons, List.length_nil]; omega⟩
        case measure => simp [lenOf]; omega
    · have hlt' : ¬ ((xs.length : Int) < 4 + (m : Int) + 4) := by omega
      have lw : w.heap.size ≤ wr.heap.size := HD.out.kp.1
      go_wp2_with (first | (at_builtin; go_must (refine wpList_append_own _ rfl _ _ 40 rfl w.heap.size 86 i0 (.agg #[.int .i64 0, .int .i64 0, .int .i64 0, .int .i64 0, .int .i64 0, .int .i64 0]) 6 48 Try.underlying40 hi hz0 hz1 hz2 rfl (by decide) _ _ _ rfl (World.ownsRow.alloc HR.out _) ⟨wr.heap.size, 0, none⟩ 1 1 [.int .i64 20, .int .i64 0, .int .i64 (-1), .int .i64 0, .int .i64 0, .int .i64 0] rfl (by simp) (news6e wr 20 0 (-1) 0 0 0 rfl) (by simp [Value.oneCell']) (by unfold maxLen; omega) (by omega) (by simp; omega) ?_)))
      intro v' wa hown hgrow _
      have hown' : wa.ownsRow w.heap.size 86 6 v' (xs ++ [(⟨20, 0, (-1), 0, 0, 0⟩ : I6)]).length (flat (xs ++ [(⟨20, 0, (-1), 0, 0, 0⟩ : I6)])) := by rw [flat_snoc]; simpa using hown
      have kd := HD.out.belowN (((Below.refl _ _).alloc lw _).grown hgrow (by simp; omega) (own_base HR.out))
      obtain ⟨a9, c9, rfl⟩ := own_slice hown'
      have HR9 := hid hown'
      have HD9 := hid kd
      clear hown hown' hgrow kd
      go_wp2_with fail
      go_ret
      exact ⟨⟨xs ++ [(⟨20, 0, (-1), 0, 0, 0⟩ : I6)], a9, c9, rfl, by rw [List.length_append]; simp only [List.length_cons, List.length_nil]; omega, by rw [List.length_append]; simp only [List.length_cons, List.length_nil]; omega, HR9.out⟩, _, by omega, HD9.out⟩
end Go.Proofs.Ytkaekiodjjhjkaa
