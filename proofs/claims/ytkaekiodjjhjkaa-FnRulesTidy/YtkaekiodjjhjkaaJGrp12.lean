/- The specification's LineGet, loosely. -/
import Derived.Test.YtkaekiodjjhjkaaJGrp11
import Derived.Test.YtkaekiodjjhjkaaJTk
import Derived.Test.YtkaekiodjjhjkaaJGrp10
set_option maxRecDepth 100000
set_option maxHeartbeats 4000000
set_option linter.unusedSimpArgs false
set_option linter.unusedVariables false
namespace Go.Proofs.Ytkaekiodjjhjkaa
open Go.RowKit
def AnXB (e : Ending) : Prop := ∃ (o d s f i z : Int) (q : Bool), e = .returned (.tuple #[.agg #[.int .i64 o, .int .i64 d, .int .i64 s, .int .i64 f, .int .i64 i, .int .i64 z], .bool q])
theorem lineGet_w (s : ByteArray) (w : World) (hs : s.size ≤ 1000) :
 Calls Try.prog 68 #[.string s] w fun e w' => AnXB e ∧ Below w.heap.size w w' := by
 go_enter Try.func68, Try.ntmps68
 go_wp2_with fail
 have hq : Box6 (w.alloc (.cells #[.int .i64 0, .int .i64 0, .int .i64 0, .int .i64 0, .int .i64 0, .int .i64 0] 86)) w.heap.size 0 0 0 0 0 0 := World.alloc_heap_new w _
 have hz : Below w.heap.size w (w.alloc (.cells #[.int .i64 0, .int .i64 0, .int .i64 0, .int .i64 0, .int .i64 0, .int .i64 0] 86)) := (Below.refl _ _).alloc (Nat.le_refl _) _
 have HQ := hid hq
 have HZ := hid hz
 clear hq hz
 generalize w.alloc (.cells #[.int .i64 0, .int .i64 0, .int .i64 0, .int .i64 0, .int .i64 0, .int .i64 0] 86) = w1 at *
 refine (cut_w s 32 w1 hs).mono ?_
 rintro e w2 ⟨⟨ws, a, c, rfl, l1, l6, hall, hown⟩, b2⟩
 replace HQ := hid (HQ.out.bel b2)
 replace HZ := hid (HZ.out.to b2)
 clear b2
 obtain ⟨g, hg, hsl⟩ : ∃ g, a = some ⟨g, 0, none⟩ ∧ SL w2 g ws := by
  have hown' := hown
  rcases hown.2 with ⟨_, h0⟩ | ⟨g, cap, cur, h0, _, hgb, _⟩
  ·omega
  ·simp only [Value.slice.injEq] at h0
   obtain ⟨rfl, _, _⟩ := h0
   refine ⟨g, rfl, (Array.getElem?_eq_some_iff.1 hgb).1, fun j hj => ?_⟩
   rw [hown'.cellAt j (by omega)]
   simp [List.getD, List.getElem?_eq_getElem hj]
 subst hg
 have HSL := hid hsl
 have HALL := hid hall
 clear hown hsl hall
 go_wp2_with fail
 refine (read_w ws g c _ HSL.out l1 l6 HALL.out).mono ?_
 rintro e w3 ⟨⟨o, d, t, f, i, z, rfl⟩, b3⟩
 replace HQ := hid (HQ.out.bel b3)
 replace HZ := hid (HZ.out.to b3)
 clear b3 HSL HALL
 go_wp2_with fail
 have hx : Box6 (w3.alloc (.cells #[.int .i64 o, .int .i64 d, .int .i64 t, .int .i64 f, .int .i64 i, .int .i64 z] 86)) w3.heap.size o d t f i z := World.alloc_heap_new w3 _
 have ba : Below w3.heap.size w3 (w3.alloc (.cells #[.int .i64 o, .int .i64 d, .int .i64 t, .int .i64 f, .int .i64 i, .int .i64 z] 86)) := (Below.refl _ _).alloc (Nat.le_refl _) _
 have lXQ := Box6.lt HQ.out
 replace HQ := hid (HQ.out.bel ba)
 replace HZ := hid (HZ.out.to ba)
 have HX := hid hx
 clear hx ba
 generalize w3.alloc (.cells #[.int .i64 o, .int .i64 d, .int .i64 t, .int .i64 f, .int .i64 i, .int .i64 z] 86) = w4 at *
 generalize w3.heap.size = X at *
 refine (f28 o d t f i z _).mono ?_
 rintro e w5 ⟨rfl, b5⟩
 replace HQ := hid (HQ.out.bel b5)
 replace HX := hid (HX.out.bel b5)
 replace HZ := hid (HZ.out.to b5)
 clear b5
 cases hok : sokB o d t f i z
 ·skip
  have B5' := hid (st6b_below (B := w.heap.size) HZ.out (Nat.le_refl _) 0 0 0 0 0 0)
  have P5 := hid (Box6.cells (Box6.st HQ.out 0 0 0 0 0 0))
  obtain ⟨x0, x1, x2, x3, x4, x5⟩ := Box6.cells HX.out
  have xl := Box6.lt HX.out
  obtain ⟨q0, q1, q2, q3, q4, q5⟩ := Box6.cells HQ.out
  have ql := Box6.lt HQ.out
  have qf := Box6.frozen HQ.out
  go_wp2_with fail
  obtain ⟨r0, r1, r2, r3, r4, r5⟩ := P5.out
  unfold st6b at r0 r1 r2 r3 r4 r5
  refine bodyPost_ret (v := .tuple #[.agg #[.int .i64 0, .int .i64 0, .int .i64 0, .int .i64 0, .int .i64 0, .int .i64 0], .bool false]) (by simp [results, Try.results68, go_sem, r0, r1, r2, r3, r4, r5]) rfl ?_
  exact ⟨⟨_, _, _, _, _, _, _, rfl⟩, B5'.out⟩
 ·skip
  obtain ⟨x0, x1, x2, x3, x4, x5⟩ := Box6.cells HX.out
  have xl := Box6.lt HX.out
  go_wp2_with fail
  clear x0 x1 x2 x3 x4 x5 xl
  refine (line_w o d t f i z _ hok).mono ?_
  rintro e w6 ⟨⟨x, hxs, rfl⟩, b6⟩
  replace HQ := hid (HQ.out.bel b6)
  replace HX := hid (HX.out.bel b6)
  replace HZ := hid (HZ.out.to b6)
  clear b6
  cases hq : (x.toList == s.toList)
  ·skip
   have B5' := hid (st6b_below (B := w.heap.size) HZ.out (Nat.le_refl _) 0 0 0 0 0 0)
   have P5 := hid (Box6.cells (Box6.st HQ.out 0 0 0 0 0 0))
   obtain ⟨x0, x1, x2, x3, x4, x5⟩ := Box6.cells HX.out
   have xl := Box6.lt HX.out
   obtain ⟨q0, q1, q2, q3, q4, q5⟩ := Box6.cells HQ.out
   have ql := Box6.lt HQ.out
   have qf := Box6.frozen HQ.out
   go_wp2_with fail
   obtain ⟨r0, r1, r2, r3, r4, r5⟩ := P5.out
   unfold st6b at r0 r1 r2 r3 r4 r5
   refine bodyPost_ret (v := .tuple #[.agg #[.int .i64 0, .int .i64 0, .int .i64 0, .int .i64 0, .int .i64 0, .int .i64 0], .bool false]) (by simp [results, Try.results68, go_sem, r0, r1, r2, r3, r4, r5]) rfl ?_
   exact ⟨⟨_, _, _, _, _, _, _, rfl⟩, B5'.out⟩
  ·skip
   have B5' := hid (st6b_below (B := w.heap.size) HZ.out (Nat.le_refl _) o d t f i z)
   have P5 := hid (Box6.cells (Box6.st HQ.out o d t f i z))
   obtain ⟨x0, x1, x2, x3, x4, x5⟩ := Box6.cells HX.out
   have xl := Box6.lt HX.out
   obtain ⟨q0, q1, q2, q3, q4, q5⟩ := Box6.cells HQ.out
   have ql := Box6.lt HQ.out
   have qf := Box6.frozen HQ.out
   go_wp2_with fail
   obtain ⟨r0, r1, r2, r3, r4, r5⟩ := P5.out
   unfold st6b at r0 r1 r2 r3 r4 r5
   refine bodyPost_ret (v := .tuple #[.agg #[.int .i64 o, .int .i64 d, .int .i64 t, .int .i64 f, .int .i64 i, .int .i64 z], .bool true]) (by simp [results, Try.results68, go_sem, r0, r1, r2, r3, r4, r5]) rfl ?_
   exact ⟨⟨_, _, _, _, _, _, _, rfl⟩, B5'.out⟩
end Go.Proofs.Ytkaekiodjjhjkaa
namespace Go.Proofs.Ytkaekiodjjhjkaa
open Go.RowKit
theorem AnXB.x {e : Ending} (h : AnXB e) : ∃ (x : I6) (q : Bool), e = .returned (.tuple #[.agg #[.int .i64 x.o, .int .i64 x.d, .int .i64 x.s, .int .i64 x.f, .int .i64 x.i, .int .i64 x.z], .bool q]) := by
 obtain ⟨o, d, s, f, i, z, q, rfl⟩ := h
 exact ⟨⟨o, d, s, f, i, z⟩, q, rfl⟩
def AnP (base m : Nat) (w' : World) (e : Ending) : Prop := ∃ (xs : List I6) (v : Value), e = .returned v ∧ xs.length = m ∧ w'.ownsRow base 86 6 v xs.length (flat xs)
theorem rdl_w (l : List ByteArray) (L c : Nat) (w : World) (h : SL w L l) (hl : l.length ≤ 20) (hsz : ∀ x ∈ l, x.size ≤ 1000) :
 Calls Try.prog 52 #[.slice (some ⟨L, 0, none⟩) l.length c] w fun e w' => AnP w.heap.size l.length w' e ∧ Below w.heap.size w w' := by
 obtain ⟨i0, hi, hz0, hz1, hz2⟩ := info_parts info25
 have H := hid h
 have HSZ := hid hsz
 have c0 : Below w.heap.size w (w.alloc (.cells #[] 86)) := (Below.refl _ _).alloc (Nat.le_refl _) _
 have o0 : (w.alloc (.cells #[] 86)).ownsRow w.heap.size 86 6 (.slice (some ⟨w.heap.size, 0, none⟩) 0 0) 0 [] := by
  refine ⟨rfl, .inr ⟨w.heap.size, 0, #[], rfl, Nat.le_refl _, World.alloc_heap_new w _, Nat.le_refl _, Nat.zero_le _, rfl, rfl⟩⟩
 have HC0 := hid c0
 have HO0 := hid o0
 clear h hsz c0 o0
 go_enter Try.func52, Try.ntmps52
 go_wp2_with fail
 go_loopw [3, 4] (fun v i wr => ∃ (k : Nat) (xs : List I6), k ≤ l.length ∧ i = .int .i64 k ∧ xs.length = k ∧ wr.ownsRow w.heap.size 86 6 v xs.length (flat xs) ∧ Below w.heap.size w wr) (fun _ i _ => l.length - (intOf i).toNat)
 case atStart => exact ⟨0, [], Nat.zero_le _, rfl, rfl, HO0.out, HC0.out⟩
 case round =>
  obtain ⟨k, xs, hk, rfl, hxl, hown, hbw⟩ := hrel
  have HXL := hid hxl
  have hks : xs.length ≤ 20 := by omega
  clear hxl
  by_cases hlt : k < l.length
  ·have hlt' : (k : Int) < (l.length : Int) := by omega
   have hk0 : (0 : Int) ≤ (k : Int) := by omega
   have hc := (H.out.below hbw).2 k hlt
   have hys : (l.getD k ⟨#[]⟩).size ≤ 1000 := by rw [List.getD, List.getElem?_eq_getElem hlt]; exact HSZ.out _ (List.getElem_mem hlt)
   generalize l.getD k ⟨#[]⟩ = y at *
   go_wp2_with fail
   refine (lineGet_w y _ hys).mono ?_
   rintro e w2 ⟨hx, hb2⟩
   obtain ⟨x, q, rfl⟩ := hx.x
   have hbw2 : Below w.heap.size w w2 := hbw.trans (hb2.mono hbw.size)
   have hsz2 := hbw2.size
   have hown2 : w2.ownsRow w.heap.size 86 6 _ xs.length (flat xs) := own_below hown hb2
   clear hx
   go_wp2_with (first | (at_builtin; go_must (refine wpList_append_own _ rfl _ _ 40 rfl w.heap.size 86 i0 (.agg #[.int .i64 0, .int .i64 0, .int .i64 0, .int .i64 0, .int .i64 0, .int .i64 0]) 6 48 Try.underlying40 hi hz0 hz1 hz2 rfl (by decide) _ _ _ rfl ((hown2.alloc _).alloc _) ⟨w2.heap.size + 1, 0, none⟩ 1 1 [.int .i64 x.o, .int .i64 x.d, .int .i64 x.s, .int .i64 x.f, .int .i64 x.i, .int .i64 x.z] rfl rfl ?c1 ?c2 ?c3 ?c4 ?c5 ?_)))
   case c1 => exact news_at w2 _ x
   case c2 => exact news_one x
   case c3 => unfold maxLen; omega
   case c4 => omega
   case c5 => simp; omega
   intro v' w3 hown3 hgrow _
   have hown4 : w3.ownsRow w.heap.size 86 6 v' (xs ++ [x]).length (flat (xs ++ [x])) := by rw [flat_snoc]; simpa using hown3
   have hbw3 : Below w.heap.size w w3 := ((hbw2.alloc hsz2 _).alloc (by simp; omega) _).grown hgrow (by simp; omega) (own_base hown2)
   clear hown hown2 hown3 hgrow
   go_wp2_with fail
   go_roundw
   case rel => exact ⟨k + 1, xs ++ [x], by omega, by go_num, by simp [HXL.out], hown4, hbw3⟩
   case measure => simp [intOf]; omega
  ·obtain rfl : k = l.length := by omega
   have HOW := hid hown
   clear hown
   go_wp2_with fail
   go_ret
   exact ⟨⟨xs, _, rfl, HXL.out, HOW.out⟩, hbw⟩
end Go.Proofs.Ytkaekiodjjhjkaa
namespace Go.Proofs.Ytkaekiodjjhjkaa
open Go.RowKit
def lenOf : Value → Nat | .slice _ n _ => n | _ => 0
theorem news6e (W : World) (o d s f i z : Int) {G : Nat} (hG : G = W.heap.size) : ∀ j u, [Value.int .i64 o, .int .i64 d, .int .i64 s, .int .i64 f, .int .i64 i, .int .i64 z][j]? = some u → (W.alloc (.cells #[.int .i64 o, .int .i64 d, .int .i64 s, .int .i64 f, .int .i64 i, .int .i64 z] 86)).cell? ((⟨G, 0, none⟩ : Addr).add j) = some u := by
 subst hG
 intro j u hj
 have hb : Box6 (W.alloc (.cells #[.int .i64 o, .int .i64 d, .int .i64 s, .int .i64 f, .int .i64 i, .int .i64 z] 86)) W.heap.size o d s f i z := World.alloc_heap_new W _
 obtain ⟨c0, c1, c2, c3, c4, c5⟩ := Box6.cells hb
 rw [Addr.add_lit, Nat.zero_add]
 match j, hj with
 | 0, hj => simp at hj; rw [c0, hj]
 | 1, hj => simp at hj; rw [c1, hj]
 | 2, hj => simp at hj; rw [c2, hj]
 | 3, hj => simp at hj; rw [c3, hj]
 | 4, hj => simp at hj; rw [c4, hj]
 | 5, hj => simp at hj; rw [c5, hj]
 | j + 6, hj => simp at hj
section
variable {w0 w w' w'' : World} {B : Nat} {a : Option Addr} {len cap p q : Nat}
theorem K3.grown (h : RS w0 w B a len cap p) (k : K3 w0 w w' B a len cap q) : w.grownBy w' (some B) :=
 ⟨k.rs.bel.os.trans h.bel.os.symm, k.rs.bel.tape.trans h.bel.tape.symm, k.rs.bel.output.trans h.bel.output.symm, k.kp.1, fun b hb hne => k.kp.2 b hb (fun e => hne (e ▸ rfl))⟩
theorem row_kept {e : TypeId} {base size n : Nat} {v : Value} {xs : List Value} (hne : (67 : TypeId) ≠ e) (h : RS w0 w B a len cap p) (k : K3 w0 w w' B a len cap q) (hr : w.ownsRow base e size v n xs) : w'.ownsRow base e size v n xs := by
 refine hr.kept (K3.grown h k) (.inr ?_)
 intro hb
 rcases hr.2 with ⟨rfl, _⟩ | ⟨g, cp, cur, rfl, _, hg, _⟩
 ·simp [Value.ownBlock] at hb
 ·simp only [Value.ownBlock, Option.some.injEq] at hb
  subst hb
  rw [h.box] at hg
  simp only [Option.some.injEq, Obj.cells.injEq] at hg
  exact hne hg.2.1
theorem K3.belowN (h : K3 w0 w w' B a len cap p) (hb : Below w.heap.size w' w'') : K3 w0 w w'' B a len cap p :=
 ⟨⟨(hb.block B h.lt).trans h.rs.box, h.rs.ge, h.rs.bel.trans (hb.mono h.le), h.rs.src, h.rs.le⟩, ⟨Nat.le_trans h.kp.1 hb.size, fun k hk hB => (hb.block k hk).trans (h.kp.2 k hk hB)⟩, h.lt, h.le⟩
end
theorem row_lt {w : World} {base e sz n c : Nat} {x : Option Addr} {xs : List Value} (h : w.ownsRow base e sz (.slice x n c) n xs) : ∀ g o, x = some ⟨g, o, none⟩ → g < w.heap.size := by
 intro g o e1
 rcases h.2 with ⟨h1, _⟩ | ⟨g', cp, cur, h1, _, hg, _⟩
 ·simp only [Value.slice.injEq] at h1
  rw [h1.1] at e1; cases e1
 ·simp only [Value.slice.injEq] at h1
  rw [h1.1] at e1
  simp only [Option.some.injEq, Addr.mk.injEq] at e1
  rw [← e1.1]
  exact (Array.getElem?_eq_some_iff.1 hg).1
theorem own_set6 {w : World} {base e sz n c X : Nat} {x : Option Addr} {xs : List Value} (h : w.ownsRow base e sz (.slice x n c) n xs) (hne : ∀ g o, x = some ⟨g, o, none⟩ → g < X) (j : Nat) (v : Value) : (w.setCell ⟨X, j, none⟩ v).ownsRow base e sz (.slice x n c) n xs := by
 refine h.kept (row := some X) ⟨rfl, rfl, rfl, by show w.heap.size ≤ (w.heap.modify X _).size; rw [Array.size_modify]; exact Nat.le_refl _, fun b _ hb => Below.heap_setCell w ⟨X, j, none⟩ v b (fun e => hb (e ▸ rfl))⟩ ?_
 rcases h.2 with ⟨h1, _⟩ | ⟨g', cp, cur, h1, _⟩
 ·simp only [Value.slice.injEq] at h1
  left; rw [h1.1]; rfl
 ·simp only [Value.slice.injEq] at h1
  right
  rw [h1.1]
  have := hne g' 0 h1.1
  show some g' ≠ some X
  simp; omega
def AnQ (base : Nat) (w' : World) (e : Ending) : Prop := ∃ (xs : List I6) (x : Option Addr) (c : Nat), e = .returned (.slice x xs.length c) ∧ 1 ≤ xs.length ∧ xs.length ≤ 40 ∧ w'.ownsRow base 86 6 (.slice x xs.length c) xs.length (flat xs)
def l4 : List ByteArray := [⟨#[109, 111, 118, 32, 114, 48, 32, 49]⟩, ⟨#[108, 111, 97, 100, 49, 32, 114, 54, 32, 114, 49, 32, 48]⟩, ⟨#[108, 111, 97, 100, 52, 32, 114, 55, 32, 114, 49, 32, 52]⟩, ⟨#[109, 111, 118, 32, 114, 56, 32, 53]⟩]
theorem make_k {w0 w : World} {B : Nat} {a : Option Addr} {len cap p : Nat} (h : RS w0 w B a len cap p) (hp : p ≤ 700000) :
 Calls Try.prog 50 #[.pointer (some ⟨B, 0, none⟩)] w fun e w' => AnQ w.heap.size w' e ∧ ∃ q, q ≤ p + 400 ∧ K3 w0 w w' B a len cap q := by
 obtain ⟨i0, hi, hz0, hz1, hz2⟩ := info_parts info25
 have HSL := hid (SL.new w l4 9)
 have HD := hid ((K3.start h).alloc (.cells (l4.map Value.string).toArray 9 (0, 0)))
 have lB := h.lt
 have lw0 : w.heap.size ≤ (w.alloc (.cells (l4.map Value.string).toArray 9 (0, 0))).heap.size := by simp
 clear h
 go_enter Try.func50, Try.ntmps50
 go_wp2_with fail
 refine (rdl_w l4 w.heap.size 4 _ HSL.out (by decide) (by decide)).mono ?_
 rintro e w1 ⟨⟨xs0, v0, rfl, hxl, hr⟩, b1⟩
 have HR := hid (own_mono hr lw0)
 replace HD := hid (HD.out.below b1)
 have hx4 : xs0.length = 4 := hxl
 have HX4 := hid hx4
 obtain ⟨a0, c0, rfl⟩ := own_slice HR.out
 clear b1 hr hxl hx4 HSL
 go_wp2_with fail
 refine (pick_k HD.out.rs (by omega) 14 (by omega) (by omega)).mono ?_
 rintro e w2 ⟨m, rfl, hm, kk⟩
 replace HR := hid (row_kept (by decide) HD.out.rs kk HR.out)
 replace HD := hid (HD.out.draw kk)
 clear kk
 have hm0 : (0 : Int) ≤ (m : Int) := by omega
 go_wp2_with fail
 go_loopw [3] (fun out wr => ∃ (xs : List I6) (q : Nat), wr.ownsRow w.heap.size 86 6 out xs.length (flat xs) ∧ K3 w0 w wr B a len cap q ∧ 4 ≤ xs.length ∧ xs.length ≤ m + 8 ∧ q ≤ p + 1 + 10 * xs.length) (fun out _ => 40 - lenOf out)
 case atStart => exact ⟨xs0, _, HR.out, HD.out, by have := HX4.out; omega, by have := HX4.out; omega, by omega⟩
 case round =>
  clear HR HD
  obtain ⟨xs, q, hr, hk, h4, h8, hq⟩ := hrel
  obtain ⟨a1, c1, rfl⟩ := own_slice hr
  have HR := hid hr
  have HD := hid hk
  clear hr hk
  have hmi : (m : Int) < 14 := by omega
  by_cases hlt : xs.length < m + 8
  ·have hlt' : (xs.length : Int) < 4 + (m : Int) + 4 := by omega
   have hl0 : (0 : Int) ≤ (xs.length : Int) := by omega
   generalize (m : Int) = mi at *
   go_wp2_with fail
   refine (pick_k HD.out.rs (by omega) 7 (by omega) (by omega)).mono ?_
   rintro e wp1 ⟨m7, rfl, hm7, kk⟩
   replace HR := hid (row_kept (by decide) HD.out.rs kk HR.out)
   replace HD := hid (HD.out.draw kk)
   clear kk
   have hy0 : (0 : Int) ≤ (m7 : Int) := by omega
   generalize (m7 : Int) = y at *
   have hyc : y = 0 ∨ y = 1 ∨ y = 2 ∨ y = 3 ∨ 4 ≤ y := by omega
   rcases hyc with rfl | rfl | rfl | rfl | h4y
   ·skip
    go_wp2_with fail
    refine (pick_k HD.out.rs (by omega) 4 (by omega) (by omega)).mono ?_
    rintro e wq1 ⟨m1, rfl, hm1, kk⟩
    replace HR := hid (row_kept (by decide) HD.out.rs kk HR.out)
    replace HD := hid (HD.out.draw kk)
    clear kk
    have hm0 : (0 : Int) ≤ (m1 : Int) := by omega
    generalize (m1 : Int) = u1 at *
    go_wp2_with fail
    refine (one_k HD.out.rs (by omega) [0, 6, 7, 8] 3 (by decide) (by decide)).mono ?_
    rintro e wq2 ⟨v1, hv1, rfl, kk⟩
    replace HR := hid (row_kept (by decide) HD.out.rs kk HR.out)
    replace HD := hid (HD.out.draw kk)
    clear kk
    clear hv1
    go_wp2_with fail
    refine (imm_k HD.out.rs (by omega)).mono ?_
    rintro e wq3 ⟨v2, rfl, hv2, kk⟩
    replace HR := hid (row_kept (by decide) HD.out.rs kk HR.out)
    replace HD := hid (HD.out.draw kk)
    clear kk
    go_wp2_with fail
    refine (pick_k HD.out.rs (by omega) _ (by omega) (by omega)).mono ?_
    rintro e wq4 ⟨m3, rfl, hm3, kk⟩
    replace HR := hid (row_kept (by decide) HD.out.rs kk HR.out)
    replace HD := hid (HD.out.draw kk)
    clear kk
    have hm30 : (0 : Int) ≤ (m3 : Int) := by omega
    generalize (m3 : Int) = u3 at *
    go_wp2_with fail
    have hx : Box6 (wq4.alloc (.cells #[.int .i64 (12 + u1), .int .i64 v1, .int .i64 (-1), .int .i64 u3, .int .i64 (v2 : Int), .int .i64 0] 86)) wq4.heap.size (12 + u1) v1 (-1) u3 (v2 : Int) 0 := World.alloc_heap_new _ _
    have ba : Below wq4.heap.size wq4 (wq4.alloc (.cells #[.int .i64 (12 + u1), .int .i64 v1, .int .i64 (-1), .int .i64 u3, .int .i64 (v2 : Int), .int .i64 0] 86)) := (Below.refl _ _).alloc (Nat.le_refl _) _
    have lX0 := HD.out.kp.1
    have hne := row_lt HR.out
    have HX := hid hx
    replace HR := hid (own_below HR.out ba)
    replace HD := hid (HD.out.below ba)
    clear hx ba
    generalize wq4.alloc (.cells #[.int .i64 (12 + u1), .int .i64 v1, .int .i64 (-1), .int .i64 u3, .int .i64 (v2 : Int), .int .i64 0] 86) = wx at *
    generalize wq4.heap.size = X at *
    refine (pick_k HD.out.rs (by omega) 3 (by omega) (by omega)).mono ?_
    rintro e wq5 ⟨m4, rfl, hm4, kk⟩
    replace HR := hid (row_kept (by decide) HD.out.rs kk HR.out)
    replace HX := hid (HX.out.k3 (by omega) kk)
    replace HD := hid (HD.out.draw kk)
    clear kk
    have hm40 : (0 : Int) ≤ (m4 : Int) := by omega
    generalize (m4 : Int) = u4 at *
    have hc4 : u4 = 0 ∨ 0 < u4 := by omega
    rcases hc4 with rfl | h4
    ·skip
     obtain ⟨x0, x1, x2, x3, x4, x5⟩ := Box6.cells HX.out
     have xl := Box6.lt HX.out
     have xf := Box6.frozen HX.out
     go_wp2_with fail
     clear x0 x1 x2 x3 x4 x5 xl xf
     refine (one_k HD.out.rs (by omega) [0, 6, 7, 8] 3 (by decide) (by decide)).mono ?_
     rintro e wq6 ⟨v5, hv5, rfl, kk⟩
     replace HR := hid (row_kept (by decide) HD.out.rs kk HR.out)
     replace HX := hid (HX.out.k3 (by omega) kk)
     replace HD := hid (HD.out.draw kk)
     clear kk
     clear hv5
     have h1 := Box6.set4 0 (Box6.set2 v5 HX.out)
     have h2 := own_set6 (own_set6 HR.out hne 2 (.int .i64 v5)) hne 4 (.int .i64 0)
     have h3 := (HD.out.set ⟨X, 2, none⟩ (.int .i64 v5) (by show w.heap.size ≤ X; omega)).set ⟨X, 4, none⟩ (.int .i64 0) (by show w.heap.size ≤ X; omega)
     have HX2 := hid h1
     have HR2 := hid h2
     have HD2 := hid h3
     clear h1 h2 h3
     have lw : w.heap.size ≤ wq6.heap.size := HD.out.kp.1
     obtain ⟨x0, x1, x2, x3, x4, x5⟩ := Box6.cells HX.out
     have xl := Box6.lt HX.out
     have xf := Box6.frozen HX.out
     go_wp2_with (first | (at_builtin; go_must (refine wpList_append_own _ rfl _ _ 40 rfl w.heap.size 86 i0 (.agg #[.int .i64 0, .int .i64 0, .int .i64 0, .int .i64 0, .int .i64 0, .int .i64 0]) 6 48 Try.underlying40 hi hz0 hz1 hz2 rfl (by decide) _ _ _ rfl (World.ownsRow.alloc HR2.out _) ⟨wq6.heap.size, 0, none⟩ 1 1 [.int .i64 (12 + u1), .int .i64 v1, .int .i64 v5, .int .i64 u3, .int .i64 0, .int .i64 0] rfl (by simp) (news6e ((wq6.setCell ⟨X, 2, none⟩ (.int .i64 v5)).setCell ⟨X, 4, none⟩ (.int .i64 0)) (12 + u1) v1 v5 u3 0 0 (by simp)) (by simp [Value.oneCell']) (by unfold maxLen; omega) (by omega) (by simp; omega) ?_)))
     clear x0 x1 x2 x3 x4 x5 xl xf
     intro v' wa hown hgrow _
     have hown' : wa.ownsRow w.heap.size 86 6 v' (xs ++ [(⟨(12 + u1), v1, v5, u3, 0, 0⟩ : I6)]).length (flat (xs ++ [(⟨(12 + u1), v1, v5, u3, 0, 0⟩ : I6)])) := by rw [flat_snoc]; simpa using hown
     have kd := HD2.out.belowN (((Below.refl _ _).alloc (by simp; omega) _).grown hgrow (by simp; omega) (own_base HR2.out))
     obtain ⟨a9, c9, rfl⟩ := own_slice hown'
     have HR9 := hid hown'
     have HD9 := hid kd
     clear hown hown' hgrow kd
     go_wp2_with fail
     go_roundw
     case rel => exact ⟨xs ++ [(⟨(12 + u1), v1, v5, u3, 0, 0⟩ : I6)], _, HR9.out, HD9.out, by rw [List.length_append]; simp only [List.length_cons, List.length_nil]; omega, by rw [List.length_append]; simp only [List.length_cons, List.length_nil]; omega, by rw [List.length_append]; simp only [List.length_cons, List.length_nil]; omega⟩
     case measure => simp [lenOf]; omega
    ·have h4' : (u4 == 0) = false := by simp; omega
     have lw : w.heap.size ≤ wq5.heap.size := HD.out.kp.1
     obtain ⟨x0, x1, x2, x3, x4, x5⟩ := Box6.cells HX.out
     have xl := Box6.lt HX.out
     have xf := Box6.frozen HX.out
     go_wp2_with (first | (at_builtin; go_must (refine wpList_append_own _ rfl _ _ 40 rfl w.heap.size 86 i0 (.agg #[.int .i64 0, .int .i64 0, .int .i64 0, .int .i64 0, .int .i64 0, .int .i64 0]) 6 48 Try.underlying40 hi hz0 hz1 hz2 rfl (by decide) _ _ _ rfl (World.ownsRow.alloc HR.out _) ⟨wq5.heap.size, 0, none⟩ 1 1 [.int .i64 (12 + u1), .int .i64 v1, .int .i64 (-1), .int .i64 u3, .int .i64 (v2 : Int), .int .i64 0] rfl (by simp) (news6e wq5 (12 + u1) v1 (-1) u3 (v2 : Int) 0 rfl) (by simp [Value.oneCell']) (by unfold maxLen; omega) (by omega) (by simp; omega) ?_)))
     clear x0 x1 x2 x3 x4 x5 xl xf
     intro v' wa hown hgrow _
     have hown' : wa.ownsRow w.heap.size 86 6 v' (xs ++ [(⟨(12 + u1), v1, (-1), u3, (v2 : Int), 0⟩ : I6)]).length (flat (xs ++ [(⟨(12 + u1), v1, (-1), u3, (v2 : Int), 0⟩ : I6)])) := by rw [flat_snoc]; simpa using hown
     have kd := HD.out.belowN (((Below.refl _ _).alloc lw _).grown hgrow (by simp; omega) (own_base HR.out))
     obtain ⟨a9, c9, rfl⟩ := own_slice hown'
     have HR9 := hid hown'
     have HD9 := hid kd
     clear hown hown' hgrow kd
     go_wp2_with fail
     go_roundw
     case rel => exact ⟨xs ++ [(⟨(12 + u1), v1, (-1), u3, (v2 : Int), 0⟩ : I6)], _, HR9.out, HD9.out, by rw [List.length_append]; simp only [List.length_cons, List.length_nil]; omega, by rw [List.length_append]; simp only [List.length_cons, List.length_nil]; omega, by rw [List.length_append]; simp only [List.length_cons, List.length_nil]; omega⟩
     case measure => simp [lenOf]; omega
   ·skip
    go_wp2_with fail
    refine (pick_k HD.out.rs (by omega) 4 (by omega) (by omega)).mono ?_
    rintro e wq1 ⟨m1, rfl, hm1, kk⟩
    replace HR := hid (row_kept (by decide) HD.out.rs kk HR.out)
    replace HD := hid (HD.out.draw kk)
    clear kk
    have hm0 : (0 : Int) ≤ (m1 : Int) := by omega
    generalize (m1 : Int) = u1 at *
    go_wp2_with fail
    refine (one_k HD.out.rs (by omega) [0, 6, 7, 8] 3 (by decide) (by decide)).mono ?_
    rintro e wq2 ⟨v1, hv1, rfl, kk⟩
    replace HR := hid (row_kept (by decide) HD.out.rs kk HR.out)
    replace HD := hid (HD.out.draw kk)
    clear kk
    clear hv1
    go_wp2_with fail
    refine (imm_k HD.out.rs (by omega)).mono ?_
    rintro e wq3 ⟨v2, rfl, hv2, kk⟩
    replace HR := hid (row_kept (by decide) HD.out.rs kk HR.out)
    replace HD := hid (HD.out.draw kk)
    clear kk
    go_wp2_with fail
    refine (pick_k HD.out.rs (by omega) _ (by omega) (by omega)).mono ?_
    rintro e wq4 ⟨m3, rfl, hm3, kk⟩
    replace HR := hid (row_kept (by decide) HD.out.rs kk HR.out)
    replace HD := hid (HD.out.draw kk)
    clear kk
    have hm30 : (0 : Int) ≤ (m3 : Int) := by omega
    generalize (m3 : Int) = u3 at *
    go_wp2_with fail
    have hx : Box6 (wq4.alloc (.cells #[.int .i64 (12 + u1), .int .i64 v1, .int .i64 (-1), .int .i64 u3, .int .i64 (v2 : Int), .int .i64 0] 86)) wq4.heap.size (12 + u1) v1 (-1) u3 (v2 : Int) 0 := World.alloc_heap_new _ _
    have ba : Below wq4.heap.size wq4 (wq4.alloc (.cells #[.int .i64 (12 + u1), .int .i64 v1, .int .i64 (-1), .int .i64 u3, .int .i64 (v2 : Int), .int .i64 0] 86)) := (Below.refl _ _).alloc (Nat.le_refl _) _
    have lX0 := HD.out.kp.1
    have hne := row_lt HR.out
    have HX := hid hx
    replace HR := hid (own_below HR.out ba)
    replace HD := hid (HD.out.below ba)
    clear hx ba
    generalize wq4.alloc (.cells #[.int .i64 (12 + u1), .int .i64 v1, .int .i64 (-1), .int .i64 u3, .int .i64 (v2 : Int), .int .i64 0] 86) = wx at *
    generalize wq4.heap.size = X at *
    refine (pick_k HD.out.rs (by omega) 3 (by omega) (by omega)).mono ?_
    rintro e wq5 ⟨m4, rfl, hm4, kk⟩
    replace HR := hid (row_kept (by decide) HD.out.rs kk HR.out)
    replace HX := hid (HX.out.k3 (by omega) kk)
    replace HD := hid (HD.out.draw kk)
    clear kk
    have hm40 : (0 : Int) ≤ (m4 : Int) := by omega
    generalize (m4 : Int) = u4 at *
    have hc4 : u4 = 0 ∨ 0 < u4 := by omega
    rcases hc4 with rfl | h4
    ·skip
     obtain ⟨x0, x1, x2, x3, x4, x5⟩ := Box6.cells HX.out
     have xl := Box6.lt HX.out
     have xf := Box6.frozen HX.out
     go_wp2_with fail
     clear x0 x1 x2 x3 x4 x5 xl xf
     refine (one_k HD.out.rs (by omega) [0, 6, 7, 8] 3 (by decide) (by decide)).mono ?_
     rintro e wq6 ⟨v5, hv5, rfl, kk⟩
     replace HR := hid (row_kept (by decide) HD.out.rs kk HR.out)
     replace HX := hid (HX.out.k3 (by omega) kk)
     replace HD := hid (HD.out.draw kk)
     clear kk
     clear hv5
     have h1 := Box6.set4 0 (Box6.set2 v5 HX.out)
     have h2 := own_set6 (own_set6 HR.out hne 2 (.int .i64 v5)) hne 4 (.int .i64 0)
     have h3 := (HD.out.set ⟨X, 2, none⟩ (.int .i64 v5) (by show w.heap.size ≤ X; omega)).set ⟨X, 4, none⟩ (.int .i64 0) (by show w.heap.size ≤ X; omega)
     have HX2 := hid h1
     have HR2 := hid h2
     have HD2 := hid h3
     clear h1 h2 h3
     have lw : w.heap.size ≤ wq6.heap.size := HD.out.kp.1
     obtain ⟨x0, x1, x2, x3, x4, x5⟩ := Box6.cells HX.out
     have xl := Box6.lt HX.out
     have xf := Box6.frozen HX.out
     go_wp2_with (first | (at_builtin; go_must (refine wpList_append_own _ rfl _ _ 40 rfl w.heap.size 86 i0 (.agg #[.int .i64 0, .int .i64 0, .int .i64 0, .int .i64 0, .int .i64 0, .int .i64 0]) 6 48 Try.underlying40 hi hz0 hz1 hz2 rfl (by decide) _ _ _ rfl (World.ownsRow.alloc HR2.out _) ⟨wq6.heap.size, 0, none⟩ 1 1 [.int .i64 (12 + u1), .int .i64 v1, .int .i64 v5, .int .i64 u3, .int .i64 0, .int .i64 0] rfl (by simp) (news6e ((wq6.setCell ⟨X, 2, none⟩ (.int .i64 v5)).setCell ⟨X, 4, none⟩ (.int .i64 0)) (12 + u1) v1 v5 u3 0 0 (by simp)) (by simp [Value.oneCell']) (by unfold maxLen; omega) (by omega) (by simp; omega) ?_)))
     clear x0 x1 x2 x3 x4 x5 xl xf
     intro v' wa hown hgrow _
     have hown' : wa.ownsRow w.heap.size 86 6 v' (xs ++ [(⟨(12 + u1), v1, v5, u3, 0, 0⟩ : I6)]).length (flat (xs ++ [(⟨(12 + u1), v1, v5, u3, 0, 0⟩ : I6)])) := by rw [flat_snoc]; simpa using hown
     have kd := HD2.out.belowN (((Below.refl _ _).alloc (by simp; omega) _).grown hgrow (by simp; omega) (own_base HR2.out))
     obtain ⟨a9, c9, rfl⟩ := own_slice hown'
     have HR9 := hid hown'
     have HD9 := hid kd
     clear hown hown' hgrow kd
     go_wp2_with fail
     go_roundw
     case rel => exact ⟨xs ++ [(⟨(12 + u1), v1, v5, u3, 0, 0⟩ : I6)], _, HR9.out, HD9.out, by rw [List.length_append]; simp only [List.length_cons, List.length_nil]; omega, by rw [List.length_append]; simp only [List.length_cons, List.length_nil]; omega, by rw [List.length_append]; simp only [List.length_cons, List.length_nil]; omega⟩
     case measure => simp [lenOf]; omega
    ·have h4' : (u4 == 0) = false := by simp; omega
     have lw : w.heap.size ≤ wq5.heap.size := HD.out.kp.1
     obtain ⟨x0, x1, x2, x3, x4, x5⟩ := Box6.cells HX.out
     have xl := Box6.lt HX.out
     have xf := Box6.frozen HX.out
     go_wp2_with (first | (at_builtin; go_must (refine wpList_append_own _ rfl _ _ 40 rfl w.heap.size 86 i0 (.agg #[.int .i64 0, .int .i64 0, .int .i64 0, .int .i64 0, .int .i64 0, .int .i64 0]) 6 48 Try.underlying40 hi hz0 hz1 hz2 rfl (by decide) _ _ _ rfl (World.ownsRow.alloc HR.out _) ⟨wq5.heap.size, 0, none⟩ 1 1 [.int .i64 (12 + u1), .int .i64 v1, .int .i64 (-1), .int .i64 u3, .int .i64 (v2 : Int), .int .i64 0] rfl (by simp) (news6e wq5 (12 + u1) v1 (-1) u3 (v2 : Int) 0 rfl) (by simp [Value.oneCell']) (by unfold maxLen; omega) (by omega) (by simp; omega) ?_)))
     clear x0 x1 x2 x3 x4 x5 xl xf
     intro v' wa hown hgrow _
     have hown' : wa.ownsRow w.heap.size 86 6 v' (xs ++ [(⟨(12 + u1), v1, (-1), u3, (v2 : Int), 0⟩ : I6)]).length (flat (xs ++ [(⟨(12 + u1), v1, (-1), u3, (v2 : Int), 0⟩ : I6)])) := by rw [flat_snoc]; simpa using hown
     have kd := HD.out.belowN (((Below.refl _ _).alloc lw _).grown hgrow (by simp; omega) (own_base HR.out))
     obtain ⟨a9, c9, rfl⟩ := own_slice hown'
     have HR9 := hid hown'
     have HD9 := hid kd
     clear hown hown' hgrow kd
     go_wp2_with fail
     go_roundw
     case rel => exact ⟨xs ++ [(⟨(12 + u1), v1, (-1), u3, (v2 : Int), 0⟩ : I6)], _, HR9.out, HD9.out, by rw [List.length_append]; simp only [List.length_cons, List.length_nil]; omega, by rw [List.length_append]; simp only [List.length_cons, List.length_nil]; omega, by rw [List.length_append]; simp only [List.length_cons, List.length_nil]; omega⟩
     case measure => simp [lenOf]; omega
   ·skip
    go_wp2_with fail
    refine (one_k HD.out.rs (by omega) [0, 6, 7, 8] 3 (by decide) (by decide)).mono ?_
    rintro e wq1 ⟨v1, hv1, rfl, kk⟩
    replace HR := hid (row_kept (by decide) HD.out.rs kk HR.out)
    replace HD := hid (HD.out.draw kk)
    clear kk
    clear hv1
    go_wp2_with fail
    refine (one_k HD.out.rs (by omega) [-4, -8, -2] 3 (by decide) (by decide)).mono ?_
    rintro e wq2 ⟨v2, hv2, rfl, kk⟩
    replace HR := hid (row_kept (by decide) HD.out.rs kk HR.out)
    replace HD := hid (HD.out.draw kk)
    clear kk
    clear hv2
    go_wp2_with fail
    refine (one_k HD.out.rs (by omega) [1, 2] 3 (by decide) (by decide)).mono ?_
    rintro e wq3 ⟨v3, hv3, rfl, kk⟩
    replace HR := hid (row_kept (by decide) HD.out.rs kk HR.out)
    replace HD := hid (HD.out.draw kk)
    clear kk
    clear hv3
    have lw : w.heap.size ≤ wq3.heap.size := HD.out.kp.1
    go_wp2_with (first | (at_builtin; go_must (refine wpList_append_own _ rfl _ _ 40 rfl w.heap.size 86 i0 (.agg #[.int .i64 0, .int .i64 0, .int .i64 0, .int .i64 0, .int .i64 0, .int .i64 0]) 6 48 Try.underlying40 hi hz0 hz1 hz2 rfl (by decide) _ _ _ rfl (World.ownsRow.alloc HR.out _) ⟨wq3.heap.size, 0, none⟩ 1 1 [.int .i64 18, .int .i64 10, .int .i64 v1, .int .i64 v2, .int .i64 0, .int .i64 v3] rfl (by simp) (news6e wq3 18 10 v1 v2 0 v3 rfl) (by simp [Value.oneCell']) (by unfold maxLen; omega) (by omega) (by simp; omega) ?_)))
    intro v' wa hown hgrow _
    have hown' : wa.ownsRow w.heap.size 86 6 v' (xs ++ [(⟨18, 10, v1, v2, 0, v3⟩ : I6)]).length (flat (xs ++ [(⟨18, 10, v1, v2, 0, v3⟩ : I6)])) := by rw [flat_snoc]; simpa using hown
    have kd := HD.out.belowN (((Below.refl _ _).alloc lw _).grown hgrow (by simp; omega) (own_base HR.out))
    obtain ⟨a9, c9, rfl⟩ := own_slice hown'
    have HR9 := hid hown'
    have HD9 := hid kd
    clear hown hown' hgrow kd
    go_wp2_with fail
    go_roundw
    case rel => exact ⟨xs ++ [(⟨18, 10, v1, v2, 0, v3⟩ : I6)], _, HR9.out, HD9.out, by rw [List.length_append]; simp only [List.length_cons, List.length_nil]; omega, by rw [List.length_append]; simp only [List.length_cons, List.length_nil]; omega, by rw [List.length_append]; simp only [List.length_cons, List.length_nil]; omega⟩
    case measure => simp [lenOf]; omega
   ·skip
    go_wp2_with fail
    refine (one_k HD.out.rs (by omega) [0, 6, 8] 3 (by decide) (by decide)).mono ?_
    rintro e wq1 ⟨v1, hv1, rfl, kk⟩
    replace HR := hid (row_kept (by decide) HD.out.rs kk HR.out)
    replace HD := hid (HD.out.draw kk)
    clear kk
    clear hv1
    go_wp2_with fail
    refine (one_k HD.out.rs (by omega) [1, 10, 1] 3 (by decide) (by decide)).mono ?_
    rintro e wq2 ⟨v2, hv2, rfl, kk⟩
    replace HR := hid (row_kept (by decide) HD.out.rs kk HR.out)
    replace HD := hid (HD.out.draw kk)
    clear kk
    clear hv2
    go_wp2_with fail
    refine (one_k HD.out.rs (by omega) [0, 3, 8] 3 (by decide) (by decide)).mono ?_
    rintro e wq3 ⟨v3, hv3, rfl, kk⟩
    replace HR := hid (row_kept (by decide) HD.out.rs kk HR.out)
    replace HD := hid (HD.out.draw kk)
    clear kk
    clear hv3
    go_wp2_with fail
    refine (one_k HD.out.rs (by omega) [1, 2, 4] 3 (by decide) (by decide)).mono ?_
    rintro e wq4 ⟨v4, hv4, rfl, kk⟩
    replace HR := hid (row_kept (by decide) HD.out.rs kk HR.out)
    replace HD := hid (HD.out.draw kk)
    clear kk
    clear hv4
    have lw : w.heap.size ≤ wq4.heap.size := HD.out.kp.1
    go_wp2_with (first | (at_builtin; go_must (refine wpList_append_own _ rfl _ _ 40 rfl w.heap.size 86 i0 (.agg #[.int .i64 0, .int .i64 0, .int .i64 0, .int .i64 0, .int .i64 0, .int .i64 0]) 6 48 Try.underlying40 hi hz0 hz1 hz2 rfl (by decide) _ _ _ rfl (World.ownsRow.alloc HR.out _) ⟨wq4.heap.size, 0, none⟩ 1 1 [.int .i64 17, .int .i64 v1, .int .i64 v2, .int .i64 v3, .int .i64 0, .int .i64 v4] rfl (by simp) (news6e wq4 17 v1 v2 v3 0 v4 rfl) (by simp [Value.oneCell']) (by unfold maxLen; omega) (by omega) (by simp; omega) ?_)))
    intro v' wa hown hgrow _
    have hown' : wa.ownsRow w.heap.size 86 6 v' (xs ++ [(⟨17, v1, v2, v3, 0, v4⟩ : I6)]).length (flat (xs ++ [(⟨17, v1, v2, v3, 0, v4⟩ : I6)])) := by rw [flat_snoc]; simpa using hown
    have kd := HD.out.belowN (((Below.refl _ _).alloc lw _).grown hgrow (by simp; omega) (own_base HR.out))
    obtain ⟨a9, c9, rfl⟩ := own_slice hown'
    have HR9 := hid hown'
    have HD9 := hid kd
    clear hown hown' hgrow kd
    go_wp2_with fail
    go_roundw
    case rel => exact ⟨xs ++ [(⟨17, v1, v2, v3, 0, v4⟩ : I6)], _, HR9.out, HD9.out, by rw [List.length_append]; simp only [List.length_cons, List.length_nil]; omega, by rw [List.length_append]; simp only [List.length_cons, List.length_nil]; omega, by rw [List.length_append]; simp only [List.length_cons, List.length_nil]; omega⟩
    case measure => simp [lenOf]; omega
   ·have y0 : (y == 0) = false := by simp; omega
    have y1 : (y == 1) = false := by simp; omega
    have y2 : (y == 2) = false := by simp; omega
    have y3 : (y == 3) = false := by simp; omega
    go_wp2_with fail
    refine (alu_k HD.out.rs (by omega)).mono ?_
    rintro e wq1 ⟨⟨z0, z1, z2, z3, z4, z5, rfl⟩, q2, hq2, kk⟩
    replace HR := hid (row_kept (by decide) HD.out.rs kk HR.out)
    replace HD := hid (HD.out.draw kk)
    clear kk
    have lw : w.heap.size ≤ wq1.heap.size := HD.out.kp.1
    go_wp2_with (first | (at_builtin; go_must (refine wpList_append_own _ rfl _ _ 40 rfl w.heap.size 86 i0 (.agg #[.int .i64 0, .int .i64 0, .int .i64 0, .int .i64 0, .int .i64 0, .int .i64 0]) 6 48 Try.underlying40 hi hz0 hz1 hz2 rfl (by decide) _ _ _ rfl (World.ownsRow.alloc HR.out _) ⟨wq1.heap.size, 0, none⟩ 1 1 [.int .i64 z0, .int .i64 z1, .int .i64 z2, .int .i64 z3, .int .i64 z4, .int .i64 z5] rfl (by simp) (news6e wq1 z0 z1 z2 z3 z4 z5 rfl) (by simp [Value.oneCell']) (by unfold maxLen; omega) (by omega) (by simp; omega) ?_)))
    intro v' wa hown hgrow _
    have hown' : wa.ownsRow w.heap.size 86 6 v' (xs ++ [(⟨z0, z1, z2, z3, z4, z5⟩ : I6)]).length (flat (xs ++ [(⟨z0, z1, z2, z3, z4, z5⟩ : I6)])) := by rw [flat_snoc]; simpa using hown
    have kd := HD.out.belowN (((Below.refl _ _).alloc lw _).grown hgrow (by simp; omega) (own_base HR.out))
    obtain ⟨a9, c9, rfl⟩ := own_slice hown'
    have HR9 := hid hown'
    have HD9 := hid kd
    clear hown hown' hgrow kd
    go_wp2_with fail
    go_roundw
    case rel => exact ⟨xs ++ [(⟨z0, z1, z2, z3, z4, z5⟩ : I6)], _, HR9.out, HD9.out, by rw [List.length_append]; simp only [List.length_cons, List.length_nil]; omega, by rw [List.length_append]; simp only [List.length_cons, List.length_nil]; omega, by rw [List.length_append]; simp only [List.length_cons, List.length_nil]; omega⟩
    case measure => simp [lenOf]; omega
  ·have hlt' : ¬ ((xs.length : Int) < 4 + (m : Int) + 4) := by omega
   have lw : w.heap.size ≤ wr.heap.size := HD.out.kp.1
   go_wp2_with (first | (at_builtin; go_must (refine wpList_append_own _ rfl _ _ 40 rfl w.heap.size 86 i0 (.agg #[.int .i64 0, .int .i64 0, .int .i64 0, .int .i64 0, .int .i64 0, .int .i64 0]) 6 48 Try.underlying40 hi hz0 hz1 hz2 rfl (by decide) _ _ _ rfl (World.ownsRow.alloc HR.out _) ⟨wr.heap.size, 0, none⟩ 1 1 [.int .i64 20, .int .i64 0, .int .i64 (-1), .int .i64 0, .int .i64 0, .int .i64 0] rfl (by simp) (news6e wr 20 0 (-1) 0 0 0 rfl) (by simp [Value.oneCell']) (by unfold maxLen; omega) (by omega) (by simp; omega) ?_)))
   intro v' wa hown hgrow _
   have hown' : wa.ownsRow w.heap.size 86 6 v' (xs ++ [(⟨20, 0, (-1), 0, 0, 0⟩ : I6)]).length (flat (xs ++ [(⟨20, 0, (-1), 0, 0, 0⟩ : I6)])) := by rw [flat_snoc]; simpa using hown
   have kd := HD.out.belowN (((Below.refl _ _).alloc lw _).grown hgrow (by simp; omega) (own_base HR.out))
   obtain ⟨a9, c9, rfl⟩ := own_slice hown'
   have HR9 := hid hown'
   have HD9 := hid kd
   clear hown hown' hgrow kd
   go_wp2_with fail
   go_ret
   exact ⟨⟨xs ++ [(⟨20, 0, (-1), 0, 0, 0⟩ : I6)], a9, c9, rfl, by rw [List.length_append]; simp only [List.length_cons, List.length_nil]; omega, by rw [List.length_append]; simp only [List.length_cons, List.length_nil]; omega, HR9.out⟩, _, by omega, HD9.out⟩
end Go.Proofs.Ytkaekiodjjhjkaa
namespace Go.Proofs.Ytkaekiodjjhjkaa
open Go.RowKit
def ln0 : List ByteArray := [⟨#[109, 111, 118, 32, 114, 48, 32, 49]⟩, ⟨#[101, 120, 105, 116]⟩]
def ln1 : List ByteArray := [⟨#[108, 111, 97, 100, 49, 32, 114, 50, 32, 114, 49, 32, 48]⟩, ⟨#[109, 111, 118, 32, 114, 48, 32, 48]⟩, ⟨#[108, 101, 115, 115, 32, 114, 50, 32, 49, 48, 32, 49]⟩, ⟨#[109, 111, 118, 32, 114, 48, 32, 49]⟩, ⟨#[101, 120, 105, 116]⟩]
def ln2 : List ByteArray := [⟨#[108, 111, 97, 100, 49, 32, 114, 54, 32, 114, 49, 32, 48]⟩, ⟨#[97, 110, 100, 32, 114, 54, 32, 51]⟩, ⟨#[109, 111, 118, 32, 114, 49, 32, 48]⟩, ⟨#[109, 111, 118, 32, 114, 50, 32, 114, 54]⟩, ⟨#[99, 97, 108, 108, 32, 108, 111, 111, 107]⟩, ⟨#[111, 116, 104, 101, 114, 32, 114, 48, 32, 48, 32, 50]⟩, ⟨#[109, 111, 118, 32, 114, 48, 32, 48]⟩, ⟨#[101, 120, 105, 116]⟩, ⟨#[108, 111, 97, 100, 49, 32, 114, 51, 32, 114, 48, 32, 48]⟩, ⟨#[97, 100, 100, 32, 114, 51, 32, 49]⟩, ⟨#[115, 116, 111, 114, 101, 49, 32, 114, 48, 32, 48, 32, 114, 51]⟩, ⟨#[109, 111, 118, 32, 114, 48, 32, 49]⟩, ⟨#[101, 120, 105, 116]⟩]
def ln3 : List ByteArray := [⟨#[108, 111, 97, 100, 52, 32, 114, 50, 32, 114, 49, 32, 48]⟩, ⟨#[115, 116, 111, 114, 101, 52, 32, 114, 49, 48, 32, 45, 52, 32, 114, 50]⟩, ⟨#[108, 111, 97, 100, 49, 32, 114, 48, 32, 114, 49, 48, 32, 45, 51]⟩, ⟨#[97, 110, 100, 32, 114, 48, 32, 49]⟩, ⟨#[101, 120, 105, 116]⟩]
def ln4 : List ByteArray := [⟨#[108, 111, 97, 100, 49, 32, 114, 49, 32, 114, 49, 32, 48]⟩, ⟨#[99, 97, 108, 108, 32, 102, 105, 110, 100]⟩, ⟨#[115, 97, 109, 101, 32, 114, 48, 32, 48, 32, 52]⟩, ⟨#[109, 111, 118, 32, 114, 49, 32, 114, 48]⟩, ⟨#[99, 97, 108, 108, 32, 100, 114, 111, 112]⟩, ⟨#[109, 111, 118, 32, 114, 48, 32, 49]⟩, ⟨#[101, 120, 105, 116]⟩, ⟨#[109, 111, 118, 32, 114, 48, 32, 48]⟩, ⟨#[101, 120, 105, 116]⟩]
def ln5 : List ByteArray := [⟨#[108, 111, 97, 100, 49, 32, 114, 49, 32, 114, 49, 32, 48]⟩, ⟨#[99, 97, 108, 108, 32, 115, 101, 110, 100]⟩, ⟨#[109, 111, 118, 32, 114, 48, 32, 50]⟩, ⟨#[101, 120, 105, 116]⟩]
def ln6 : List ByteArray := [⟨#[109, 111, 118, 32, 114, 54, 32, 48]⟩, ⟨#[97, 100, 100, 32, 114, 54, 32, 49]⟩, ⟨#[108, 101, 115, 115, 32, 114, 54, 32, 53, 32, 45, 50]⟩, ⟨#[109, 111, 118, 32, 114, 48, 32, 114, 54]⟩, ⟨#[101, 120, 105, 116]⟩]
def ln7 : List ByteArray := [⟨#[108, 111, 97, 100, 49, 32, 114, 50, 32, 114, 49, 32, 48]⟩, ⟨#[97, 110, 100, 32, 114, 50, 32, 55]⟩, ⟨#[109, 111, 118, 32, 114, 51, 32, 114, 49]⟩, ⟨#[97, 100, 100, 32, 114, 51, 32, 114, 50]⟩, ⟨#[108, 111, 97, 100, 49, 32, 114, 48, 32, 114, 51, 32, 48]⟩, ⟨#[101, 120, 105, 116]⟩]
def ln8 : List ByteArray := [⟨#[99, 97, 108, 108, 32, 114, 97, 110, 100]⟩, ⟨#[109, 111, 100, 32, 114, 48, 32, 51]⟩, ⟨#[101, 120, 105, 116]⟩]
def ln9 : List ByteArray := [⟨#[108, 111, 97, 100, 50, 32, 114, 50, 32, 114, 49, 32, 52]⟩, ⟨#[109, 111, 118, 32, 114, 48, 32, 114, 50]⟩, ⟨#[115, 104, 114, 32, 114, 48, 32, 52]⟩, ⟨#[120, 111, 114, 32, 114, 48, 32, 50, 53, 53]⟩, ⟨#[100, 105, 118, 32, 114, 48, 32, 51]⟩, ⟨#[101, 120, 105, 116]⟩]
def ln10 : List ByteArray := [⟨#[108, 111, 97, 100, 49, 32, 114, 54, 32, 114, 49, 32, 48]⟩, ⟨#[109, 111, 118, 32, 114, 49, 32, 49]⟩, ⟨#[109, 111, 118, 32, 114, 50, 32, 114, 54]⟩, ⟨#[109, 111, 118, 32, 114, 51, 32, 55]⟩, ⟨#[99, 97, 108, 108, 32, 112, 117, 116]⟩, ⟨#[101, 120, 105, 116]⟩]
def ln11 : List ByteArray := [⟨#[108, 111, 97, 100, 49, 32, 114, 49, 32, 114, 49, 32, 49]⟩, ⟨#[99, 97, 108, 108, 32, 102, 105, 110, 100]⟩, ⟨#[109, 111, 118, 32, 114, 54, 32, 114, 48]⟩, ⟨#[111, 116, 104, 101, 114, 32, 114, 54, 32, 48, 32, 50]⟩, ⟨#[109, 111, 118, 32, 114, 48, 32, 48]⟩, ⟨#[101, 120, 105, 116]⟩, ⟨#[109, 111, 118, 32, 114, 49, 32, 114, 54]⟩, ⟨#[99, 97, 108, 108, 32, 100, 114, 111, 112]⟩, ⟨#[109, 111, 118, 32, 114, 48, 32, 50]⟩, ⟨#[101, 120, 105, 116]⟩]
def ln12 : List ByteArray := [⟨#[108, 111, 97, 100, 49, 32, 114, 50, 32, 114, 49, 32, 48]⟩, ⟨#[109, 111, 114, 101, 32, 114, 50, 32, 55, 32, 50]⟩, ⟨#[115, 116, 111, 114, 101, 49, 32, 114, 49, 48, 32, 45, 49, 32, 114, 50]⟩, ⟨#[103, 111, 32, 49]⟩, ⟨#[115, 116, 111, 114, 101, 49, 32, 114, 49, 48, 32, 45, 49, 32, 48]⟩, ⟨#[108, 111, 97, 100, 49, 32, 114, 48, 32, 114, 49, 48, 32, 45, 49]⟩, ⟨#[101, 120, 105, 116]⟩]
def ln13 : List ByteArray := [⟨#[108, 111, 97, 100, 49, 32, 114, 50, 32, 114, 49, 32, 48]⟩, ⟨#[108, 101, 115, 115, 32, 114, 50, 32, 57, 32, 49]⟩, ⟨#[109, 111, 118, 32, 114, 50, 32, 56]⟩, ⟨#[109, 111, 118, 32, 114, 51, 32, 114, 49, 48]⟩, ⟨#[115, 117, 98, 32, 114, 51, 32, 49, 54]⟩, ⟨#[115, 116, 111, 114, 101, 52, 32, 114, 51, 32, 48, 32, 49]⟩, ⟨#[115, 116, 111, 114, 101, 52, 32, 114, 51, 32, 52, 32, 50]⟩, ⟨#[115, 116, 111, 114, 101, 52, 32, 114, 51, 32, 56, 32, 51]⟩, ⟨#[97, 100, 100, 32, 114, 51, 32, 114, 50]⟩, ⟨#[108, 111, 97, 100, 49, 32, 114, 48, 32, 114, 51, 32, 48]⟩, ⟨#[101, 120, 105, 116]⟩]
def ln14 : List ByteArray := [⟨#[108, 111, 97, 100, 49, 32, 114, 50, 32, 114, 49, 32, 48]⟩, ⟨#[109, 117, 108, 32, 114, 50, 32, 49, 48, 48, 48]⟩, ⟨#[109, 111, 118, 32, 114, 48, 32, 114, 50]⟩, ⟨#[109, 111, 114, 101, 32, 114, 48, 32, 49, 48, 48, 48, 48, 48, 32, 49]⟩, ⟨#[115, 117, 98, 32, 114, 48, 32, 49]⟩, ⟨#[101, 120, 105, 116]⟩]
theorem SL.alloc {w : World} {g : Nat} {l : List ByteArray} (h : SL w g l) (o : Obj) : SL (w.alloc o) g l := h.below ((Below.refl _ _).alloc (Nat.le_refl _) _)
def LnAt (w : World) (v : Value) : Prop := ∃ (L : Nat) (l : List ByteArray), v = .slice (some ⟨L, 0, none⟩) l.length l.length ∧ SL w L l ∧ 2 ≤ l.length ∧ l.length ≤ 13 ∧ ∀ x ∈ l, x.size ≤ 1000
theorem LnAt.alloc {w : World} {v : Value} (h : LnAt w v) (o : Obj) : LnAt (w.alloc o) v := by
 obtain ⟨L, l, e, h1, h2⟩ := h
 exact ⟨L, l, e, h1.alloc o, h2⟩
theorem LnAt.below {w w' : World} {v : Value} (h : LnAt w v) (hb : Below w.heap.size w w') : LnAt w' v := by
 obtain ⟨L, l, e, h1, h2⟩ := h
 exact ⟨L, l, e, h1.below hb, h2⟩
theorem LnAt.new (w : World) (l : List ByteArray) (L n : Nat) (hL : L = w.heap.size) (hn : n = l.length) (h1 : 2 ≤ l.length) (h2 : l.length ≤ 13) (h3 : ∀ x ∈ l, x.size ≤ 1000) : LnAt (w.alloc (.cells (l.map Value.string).toArray 9 (0, 0))) (.slice (some ⟨L, 0, none⟩) n n) := by
 subst hL hn
 exact ⟨_, l, rfl, SL.new w l 9, h1, h2, h3⟩
def LnAll (w : World) (G : Nat) : Prop := G < w.heap.size ∧ ∀ j, j < 15 → ∃ v, w.cell? ⟨G, j, none⟩ = some v ∧ LnAt w v
theorem LnAll.new (w : World) (vs : List Value) (t : TypeId) (hl : vs.length = 15) (h : ∀ v ∈ vs, LnAt w v) (G : Nat) (hG : G = w.heap.size) : LnAll (w.alloc (.cells vs.toArray t (0, 0))) G := by
 subst hG
 refine ⟨by simp, fun j hj => ⟨vs[j], ?_, (h _ (List.getElem_mem _)).alloc _⟩⟩
 have hb : (w.alloc (.cells vs.toArray t (0, 0))).heap[w.heap.size]? = some (.cells vs.toArray t (0, 0)) := by
  show (w.heap.push _)[w.heap.size]? = _
  simp
 simp only [World.cell?, hb]
 simp [hl, hj]
theorem lines_at (w : World) : ∀ v ∈ [.slice (some ⟨w.heap.size, 0, none⟩) 2 2, .slice (some ⟨w.heap.size + 1, 0, none⟩) 5 5, .slice (some ⟨w.heap.size + 1 + 1, 0, none⟩) 13 13, .slice (some ⟨w.heap.size + 1 + 1 + 1, 0, none⟩) 5 5, .slice (some ⟨w.heap.size + 1 + 1 + 1 + 1, 0, none⟩) 9 9, .slice (some ⟨w.heap.size + 1 + 1 + 1 + 1 + 1, 0, none⟩) 4 4, .slice (some ⟨w.heap.size + 1 + 1 + 1 + 1 + 1 + 1, 0, none⟩) 5 5, .slice (some ⟨w.heap.size + 1 + 1 + 1 + 1 + 1 + 1 + 1, 0, none⟩) 6 6, .slice (some ⟨w.heap.size + 1 + 1 + 1 + 1 + 1 + 1 + 1 + 1, 0, none⟩) 3 3, .slice (some ⟨w.heap.size + 1 + 1 + 1 + 1 + 1 + 1 + 1 + 1 + 1, 0, none⟩) 6 6, .slice (some ⟨w.heap.size + 1 + 1 + 1 + 1 + 1 + 1 + 1 + 1 + 1 + 1, 0, none⟩) 6 6, .slice (some ⟨w.heap.size + 1 + 1 + 1 + 1 + 1 + 1 + 1 + 1 + 1 + 1 + 1, 0, none⟩) 10 10, .slice (some ⟨w.heap.size + 1 + 1 + 1 + 1 + 1 + 1 + 1 + 1 + 1 + 1 + 1 + 1, 0, none⟩) 7 7, .slice (some ⟨w.heap.size + 1 + 1 + 1 + 1 + 1 + 1 + 1 + 1 + 1 + 1 + 1 + 1 + 1, 0, none⟩) 11 11, .slice (some ⟨w.heap.size + 1 + 1 + 1 + 1 + 1 + 1 + 1 + 1 + 1 + 1 + 1 + 1 + 1 + 1, 0, none⟩) 6 6], LnAt (((((((((((((((w.alloc (.cells (ln0.map Value.string).toArray 9 (0, 0))).alloc (.cells (ln1.map Value.string).toArray 9 (0, 0))).alloc (.cells (ln2.map Value.string).toArray 9 (0, 0))).alloc (.cells (ln3.map Value.string).toArray 9 (0, 0))).alloc (.cells (ln4.map Value.string).toArray 9 (0, 0))).alloc (.cells (ln5.map Value.string).toArray 9 (0, 0))).alloc (.cells (ln6.map Value.string).toArray 9 (0, 0))).alloc (.cells (ln7.map Value.string).toArray 9 (0, 0))).alloc (.cells (ln8.map Value.string).toArray 9 (0, 0))).alloc (.cells (ln9.map Value.string).toArray 9 (0, 0))).alloc (.cells (ln10.map Value.string).toArray 9 (0, 0))).alloc (.cells (ln11.map Value.string).toArray 9 (0, 0))).alloc (.cells (ln12.map Value.string).toArray 9 (0, 0))).alloc (.cells (ln13.map Value.string).toArray 9 (0, 0))).alloc (.cells (ln14.map Value.string).toArray 9 (0, 0))) v := by
 intro v hv
 simp only [List.mem_cons, List.not_mem_nil, or_false] at hv
 rcases hv with rfl | rfl | rfl | rfl | rfl | rfl | rfl | rfl | rfl | rfl | rfl | rfl | rfl | rfl | rfl
 ·exact LnAt.alloc (LnAt.alloc (LnAt.alloc (LnAt.alloc (LnAt.alloc (LnAt.alloc (LnAt.alloc (LnAt.alloc (LnAt.alloc (LnAt.alloc (LnAt.alloc (LnAt.alloc (LnAt.alloc (LnAt.alloc (LnAt.new w ln0 (w.heap.size) 2 (by simp only [World.size_alloc]) rfl (by decide) (by decide) (by decide)) _) _) _) _) _) _) _) _) _) _) _) _) _) _
 ·exact LnAt.alloc (LnAt.alloc (LnAt.alloc (LnAt.alloc (LnAt.alloc (LnAt.alloc (LnAt.alloc (LnAt.alloc (LnAt.alloc (LnAt.alloc (LnAt.alloc (LnAt.alloc (LnAt.alloc (LnAt.new (w.alloc (.cells (ln0.map Value.string).toArray 9 (0, 0))) ln1 (w.heap.size + 1) 5 (by simp only [World.size_alloc]) rfl (by decide) (by decide) (by decide)) _) _) _) _) _) _) _) _) _) _) _) _) _
 ·exact LnAt.alloc (LnAt.alloc (LnAt.alloc (LnAt.alloc (LnAt.alloc (LnAt.alloc (LnAt.alloc (LnAt.alloc (LnAt.alloc (LnAt.alloc (LnAt.alloc (LnAt.alloc (LnAt.new ((w.alloc (.cells (ln0.map Value.string).toArray 9 (0, 0))).alloc (.cells (ln1.map Value.string).toArray 9 (0, 0))) ln2 (w.heap.size + 1 + 1) 13 (by simp only [World.size_alloc]) rfl (by decide) (by decide) (by decide)) _) _) _) _) _) _) _) _) _) _) _) _
 ·exact LnAt.alloc (LnAt.alloc (LnAt.alloc (LnAt.alloc (LnAt.alloc (LnAt.alloc (LnAt.alloc (LnAt.alloc (LnAt.alloc (LnAt.alloc (LnAt.alloc (LnAt.new (((w.alloc (.cells (ln0.map Value.string).toArray 9 (0, 0))).alloc (.cells (ln1.map Value.string).toArray 9 (0, 0))).alloc (.cells (ln2.map Value.string).toArray 9 (0, 0))) ln3 (w.heap.size + 1 + 1 + 1) 5 (by simp only [World.size_alloc]) rfl (by decide) (by decide) (by decide)) _) _) _) _) _) _) _) _) _) _) _
 ·exact LnAt.alloc (LnAt.alloc (LnAt.alloc (LnAt.alloc (LnAt.alloc (LnAt.alloc (LnAt.alloc (LnAt.alloc (LnAt.alloc (LnAt.alloc (LnAt.new ((((w.alloc (.cells (ln0.map Value.string).toArray 9 (0, 0))).alloc (.cells (ln1.map Value.string).toArray 9 (0, 0))).alloc (.cells (ln2.map Value.string).toArray 9 (0, 0))).alloc (.cells (ln3.map Value.string).toArray 9 (0, 0))) ln4 (w.heap.size + 1 + 1 + 1 + 1) 9 (by simp only [World.size_alloc]) rfl (by decide) (by decide) (by decide)) _) _) _) _) _) _) _) _) _) _
 ·exact LnAt.alloc (LnAt.alloc (LnAt.alloc (LnAt.alloc (LnAt.alloc (LnAt.alloc (LnAt.alloc (LnAt.alloc (LnAt.alloc (LnAt.new (((((w.alloc (.cells (ln0.map Value.string).toArray 9 (0, 0))).alloc (.cells (ln1.map Value.string).toArray 9 (0, 0))).alloc (.cells (ln2.map Value.string).toArray 9 (0, 0))).alloc (.cells (ln3.map Value.string).toArray 9 (0, 0))).alloc (.cells (ln4.map Value.string).toArray 9 (0, 0))) ln5 (w.heap.size + 1 + 1 + 1 + 1 + 1) 4 (by simp only [World.size_alloc]) rfl (by decide) (by decide) (by decide)) _) _) _) _) _) _) _) _) _
 ·exact LnAt.alloc (LnAt.alloc (LnAt.alloc (LnAt.alloc (LnAt.alloc (LnAt.alloc (LnAt.alloc (LnAt.alloc (LnAt.new ((((((w.alloc (.cells (ln0.map Value.string).toArray 9 (0, 0))).alloc (.cells (ln1.map Value.string).toArray 9 (0, 0))).alloc (.cells (ln2.map Value.string).toArray 9 (0, 0))).alloc (.cells (ln3.map Value.string).toArray 9 (0, 0))).alloc (.cells (ln4.map Value.string).toArray 9 (0, 0))).alloc (.cells (ln5.map Value.string).toArray 9 (0, 0))) ln6 (w.heap.size + 1 + 1 + 1 + 1 + 1 + 1) 5 (by simp only [World.size_alloc]) rfl (by decide) (by decide) (by decide)) _) _) _) _) _) _) _) _
 ·exact LnAt.alloc (LnAt.alloc (LnAt.alloc (LnAt.alloc (LnAt.alloc (LnAt.alloc (LnAt.alloc (LnAt.new (((((((w.alloc (.cells (ln0.map Value.string).toArray 9 (0, 0))).alloc (.cells (ln1.map Value.string).toArray 9 (0, 0))).alloc (.cells (ln2.map Value.string).toArray 9 (0, 0))).alloc (.cells (ln3.map Value.string).toArray 9 (0, 0))).alloc (.cells (ln4.map Value.string).toArray 9 (0, 0))).alloc (.cells (ln5.map Value.string).toArray 9 (0, 0))).alloc (.cells (ln6.map Value.string).toArray 9 (0, 0))) ln7 (w.heap.size + 1 + 1 + 1 + 1 + 1 + 1 + 1) 6 (by simp only [World.size_alloc]) rfl (by decide) (by decide) (by decide)) _) _) _) _) _) _) _
 ·exact LnAt.alloc (LnAt.alloc (LnAt.alloc (LnAt.alloc (LnAt.alloc (LnAt.alloc (LnAt.new ((((((((w.alloc (.cells (ln0.map Value.string).toArray 9 (0, 0))).alloc (.cells (ln1.map Value.string).toArray 9 (0, 0))).alloc (.cells (ln2.map Value.string).toArray 9 (0, 0))).alloc (.cells (ln3.map Value.string).toArray 9 (0, 0))).alloc (.cells (ln4.map Value.string).toArray 9 (0, 0))).alloc (.cells (ln5.map Value.string).toArray 9 (0, 0))).alloc (.cells (ln6.map Value.string).toArray 9 (0, 0))).alloc (.cells (ln7.map Value.string).toArray 9 (0, 0))) ln8 (w.heap.size + 1 + 1 + 1 + 1 + 1 + 1 + 1 + 1) 3 (by simp only [World.size_alloc]) rfl (by decide) (by decide) (by decide)) _) _) _) _) _) _
 ·exact LnAt.alloc (LnAt.alloc (LnAt.alloc (LnAt.alloc (LnAt.alloc (LnAt.new (((((((((w.alloc (.cells (ln0.map Value.string).toArray 9 (0, 0))).alloc (.cells (ln1.map Value.string).toArray 9 (0, 0))).alloc (.cells (ln2.map Value.string).toArray 9 (0, 0))).alloc (.cells (ln3.map Value.string).toArray 9 (0, 0))).alloc (.cells (ln4.map Value.string).toArray 9 (0, 0))).alloc (.cells (ln5.map Value.string).toArray 9 (0, 0))).alloc (.cells (ln6.map Value.string).toArray 9 (0, 0))).alloc (.cells (ln7.map Value.string).toArray 9 (0, 0))).alloc (.cells (ln8.map Value.string).toArray 9 (0, 0))) ln9 (w.heap.size + 1 + 1 + 1 + 1 + 1 + 1 + 1 + 1 + 1) 6 (by simp only [World.size_alloc]) rfl (by decide) (by decide) (by decide)) _) _) _) _) _
 ·exact LnAt.alloc (LnAt.alloc (LnAt.alloc (LnAt.alloc (LnAt.new ((((((((((w.alloc (.cells (ln0.map Value.string).toArray 9 (0, 0))).alloc (.cells (ln1.map Value.string).toArray 9 (0, 0))).alloc (.cells (ln2.map Value.string).toArray 9 (0, 0))).alloc (.cells (ln3.map Value.string).toArray 9 (0, 0))).alloc (.cells (ln4.map Value.string).toArray 9 (0, 0))).alloc (.cells (ln5.map Value.string).toArray 9 (0, 0))).alloc (.cells (ln6.map Value.string).toArray 9 (0, 0))).alloc (.cells (ln7.map Value.string).toArray 9 (0, 0))).alloc (.cells (ln8.map Value.string).toArray 9 (0, 0))).alloc (.cells (ln9.map Value.string).toArray 9 (0, 0))) ln10 (w.heap.size + 1 + 1 + 1 + 1 + 1 + 1 + 1 + 1 + 1 + 1) 6 (by simp only [World.size_alloc]) rfl (by decide) (by decide) (by decide)) _) _) _) _
 ·exact LnAt.alloc (LnAt.alloc (LnAt.alloc (LnAt.new (((((((((((w.alloc (.cells (ln0.map Value.string).toArray 9 (0, 0))).alloc (.cells (ln1.map Value.string).toArray 9 (0, 0))).alloc (.cells (ln2.map Value.string).toArray 9 (0, 0))).alloc (.cells (ln3.map Value.string).toArray 9 (0, 0))).alloc (.cells (ln4.map Value.string).toArray 9 (0, 0))).alloc (.cells (ln5.map Value.string).toArray 9 (0, 0))).alloc (.cells (ln6.map Value.string).toArray 9 (0, 0))).alloc (.cells (ln7.map Value.string).toArray 9 (0, 0))).alloc (.cells (ln8.map Value.string).toArray 9 (0, 0))).alloc (.cells (ln9.map Value.string).toArray 9 (0, 0))).alloc (.cells (ln10.map Value.string).toArray 9 (0, 0))) ln11 (w.heap.size + 1 + 1 + 1 + 1 + 1 + 1 + 1 + 1 + 1 + 1 + 1) 10 (by simp only [World.size_alloc]) rfl (by decide) (by decide) (by decide)) _) _) _
 ·exact LnAt.alloc (LnAt.alloc (LnAt.new ((((((((((((w.alloc (.cells (ln0.map Value.string).toArray 9 (0, 0))).alloc (.cells (ln1.map Value.string).toArray 9 (0, 0))).alloc (.cells (ln2.map Value.string).toArray 9 (0, 0))).alloc (.cells (ln3.map Value.string).toArray 9 (0, 0))).alloc (.cells (ln4.map Value.string).toArray 9 (0, 0))).alloc (.cells (ln5.map Value.string).toArray 9 (0, 0))).alloc (.cells (ln6.map Value.string).toArray 9 (0, 0))).alloc (.cells (ln7.map Value.string).toArray 9 (0, 0))).alloc (.cells (ln8.map Value.string).toArray 9 (0, 0))).alloc (.cells (ln9.map Value.string).toArray 9 (0, 0))).alloc (.cells (ln10.map Value.string).toArray 9 (0, 0))).alloc (.cells (ln11.map Value.string).toArray 9 (0, 0))) ln12 (w.heap.size + 1 + 1 + 1 + 1 + 1 + 1 + 1 + 1 + 1 + 1 + 1 + 1) 7 (by simp only [World.size_alloc]) rfl (by decide) (by decide) (by decide)) _) _
 ·exact LnAt.alloc (LnAt.new (((((((((((((w.alloc (.cells (ln0.map Value.string).toArray 9 (0, 0))).alloc (.cells (ln1.map Value.string).toArray 9 (0, 0))).alloc (.cells (ln2.map Value.string).toArray 9 (0, 0))).alloc (.cells (ln3.map Value.string).toArray 9 (0, 0))).alloc (.cells (ln4.map Value.string).toArray 9 (0, 0))).alloc (.cells (ln5.map Value.string).toArray 9 (0, 0))).alloc (.cells (ln6.map Value.string).toArray 9 (0, 0))).alloc (.cells (ln7.map Value.string).toArray 9 (0, 0))).alloc (.cells (ln8.map Value.string).toArray 9 (0, 0))).alloc (.cells (ln9.map Value.string).toArray 9 (0, 0))).alloc (.cells (ln10.map Value.string).toArray 9 (0, 0))).alloc (.cells (ln11.map Value.string).toArray 9 (0, 0))).alloc (.cells (ln12.map Value.string).toArray 9 (0, 0))) ln13 (w.heap.size + 1 + 1 + 1 + 1 + 1 + 1 + 1 + 1 + 1 + 1 + 1 + 1 + 1) 11 (by simp only [World.size_alloc]) rfl (by decide) (by decide) (by decide)) _
 ·exact LnAt.new ((((((((((((((w.alloc (.cells (ln0.map Value.string).toArray 9 (0, 0))).alloc (.cells (ln1.map Value.string).toArray 9 (0, 0))).alloc (.cells (ln2.map Value.string).toArray 9 (0, 0))).alloc (.cells (ln3.map Value.string).toArray 9 (0, 0))).alloc (.cells (ln4.map Value.string).toArray 9 (0, 0))).alloc (.cells (ln5.map Value.string).toArray 9 (0, 0))).alloc (.cells (ln6.map Value.string).toArray 9 (0, 0))).alloc (.cells (ln7.map Value.string).toArray 9 (0, 0))).alloc (.cells (ln8.map Value.string).toArray 9 (0, 0))).alloc (.cells (ln9.map Value.string).toArray 9 (0, 0))).alloc (.cells (ln10.map Value.string).toArray 9 (0, 0))).alloc (.cells (ln11.map Value.string).toArray 9 (0, 0))).alloc (.cells (ln12.map Value.string).toArray 9 (0, 0))).alloc (.cells (ln13.map Value.string).toArray 9 (0, 0))) ln14 (w.heap.size + 1 + 1 + 1 + 1 + 1 + 1 + 1 + 1 + 1 + 1 + 1 + 1 + 1 + 1) 6 (by simp only [World.size_alloc]) rfl (by decide) (by decide) (by decide)
theorem lines_w (w : World) : Calls Try.prog 51 #[] w fun e w' => (∃ G, e = .returned (.slice (some ⟨G, 0, none⟩) 15 15) ∧ LnAll w' G) ∧ Below w.heap.size w w' := by
 have h := hid (LnAll.new (((((((((((((((w.alloc (.cells (ln0.map Value.string).toArray 9 (0, 0))).alloc (.cells (ln1.map Value.string).toArray 9 (0, 0))).alloc (.cells (ln2.map Value.string).toArray 9 (0, 0))).alloc (.cells (ln3.map Value.string).toArray 9 (0, 0))).alloc (.cells (ln4.map Value.string).toArray 9 (0, 0))).alloc (.cells (ln5.map Value.string).toArray 9 (0, 0))).alloc (.cells (ln6.map Value.string).toArray 9 (0, 0))).alloc (.cells (ln7.map Value.string).toArray 9 (0, 0))).alloc (.cells (ln8.map Value.string).toArray 9 (0, 0))).alloc (.cells (ln9.map Value.string).toArray 9 (0, 0))).alloc (.cells (ln10.map Value.string).toArray 9 (0, 0))).alloc (.cells (ln11.map Value.string).toArray 9 (0, 0))).alloc (.cells (ln12.map Value.string).toArray 9 (0, 0))).alloc (.cells (ln13.map Value.string).toArray 9 (0, 0))).alloc (.cells (ln14.map Value.string).toArray 9 (0, 0))) _ 84 rfl (lines_at w) (w.heap.size + 1 + 1 + 1 + 1 + 1 + 1 + 1 + 1 + 1 + 1 + 1 + 1 + 1 + 1 + 1) (by simp only [World.size_alloc]))
 have hb : Below w.heap.size w (((((((((((((((w.alloc (.cells (ln0.map Value.string).toArray 9 (0, 0))).alloc (.cells (ln1.map Value.string).toArray 9 (0, 0))).alloc (.cells (ln2.map Value.string).toArray 9 (0, 0))).alloc (.cells (ln3.map Value.string).toArray 9 (0, 0))).alloc (.cells (ln4.map Value.string).toArray 9 (0, 0))).alloc (.cells (ln5.map Value.string).toArray 9 (0, 0))).alloc (.cells (ln6.map Value.string).toArray 9 (0, 0))).alloc (.cells (ln7.map Value.string).toArray 9 (0, 0))).alloc (.cells (ln8.map Value.string).toArray 9 (0, 0))).alloc (.cells (ln9.map Value.string).toArray 9 (0, 0))).alloc (.cells (ln10.map Value.string).toArray 9 (0, 0))).alloc (.cells (ln11.map Value.string).toArray 9 (0, 0))).alloc (.cells (ln12.map Value.string).toArray 9 (0, 0))).alloc (.cells (ln13.map Value.string).toArray 9 (0, 0))).alloc (.cells (ln14.map Value.string).toArray 9 (0, 0))) := by
  exact ((((((((((((((((Below.refl _ w).alloc (by first | exact Nat.le_refl _ | (simp only [World.size_alloc]; omega)) _).alloc (by first | exact Nat.le_refl _ | (simp only [World.size_alloc]; omega)) _).alloc (by first | exact Nat.le_refl _ | (simp only [World.size_alloc]; omega)) _).alloc (by first | exact Nat.le_refl _ | (simp only [World.size_alloc]; omega)) _).alloc (by first | exact Nat.le_refl _ | (simp only [World.size_alloc]; omega)) _).alloc (by first | exact Nat.le_refl _ | (simp only [World.size_alloc]; omega)) _).alloc (by first | exact Nat.le_refl _ | (simp only [World.size_alloc]; omega)) _).alloc (by first | exact Nat.le_refl _ | (simp only [World.size_alloc]; omega)) _).alloc (by first | exact Nat.le_refl _ | (simp only [World.size_alloc]; omega)) _).alloc (by first | exact Nat.le_refl _ | (simp only [World.size_alloc]; omega)) _).alloc (by first | exact Nat.le_refl _ | (simp only [World.size_alloc]; omega)) _).alloc (by first | exact Nat.le_refl _ | (simp only [World.size_alloc]; omega)) _).alloc (by first | exact Nat.le_refl _ | (simp only [World.size_alloc]; omega)) _).alloc (by first | exact Nat.le_refl _ | (simp only [World.size_alloc]; omega)) _).alloc (by first | exact Nat.le_refl _ | (simp only [World.size_alloc]; omega)) _)
 have HB := hid (hb.alloc hb.size (.cells ((List.toArray [.slice (some ⟨w.heap.size, 0, none⟩) 2 2, .slice (some ⟨w.heap.size + 1, 0, none⟩) 5 5, .slice (some ⟨w.heap.size + 1 + 1, 0, none⟩) 13 13, .slice (some ⟨w.heap.size + 1 + 1 + 1, 0, none⟩) 5 5, .slice (some ⟨w.heap.size + 1 + 1 + 1 + 1, 0, none⟩) 9 9, .slice (some ⟨w.heap.size + 1 + 1 + 1 + 1 + 1, 0, none⟩) 4 4, .slice (some ⟨w.heap.size + 1 + 1 + 1 + 1 + 1 + 1, 0, none⟩) 5 5, .slice (some ⟨w.heap.size + 1 + 1 + 1 + 1 + 1 + 1 + 1, 0, none⟩) 6 6, .slice (some ⟨w.heap.size + 1 + 1 + 1 + 1 + 1 + 1 + 1 + 1, 0, none⟩) 3 3, .slice (some ⟨w.heap.size + 1 + 1 + 1 + 1 + 1 + 1 + 1 + 1 + 1, 0, none⟩) 6 6, .slice (some ⟨w.heap.size + 1 + 1 + 1 + 1 + 1 + 1 + 1 + 1 + 1 + 1, 0, none⟩) 6 6, .slice (some ⟨w.heap.size + 1 + 1 + 1 + 1 + 1 + 1 + 1 + 1 + 1 + 1 + 1, 0, none⟩) 10 10, .slice (some ⟨w.heap.size + 1 + 1 + 1 + 1 + 1 + 1 + 1 + 1 + 1 + 1 + 1 + 1, 0, none⟩) 7 7, .slice (some ⟨w.heap.size + 1 + 1 + 1 + 1 + 1 + 1 + 1 + 1 + 1 + 1 + 1 + 1 + 1, 0, none⟩) 11 11, .slice (some ⟨w.heap.size + 1 + 1 + 1 + 1 + 1 + 1 + 1 + 1 + 1 + 1 + 1 + 1 + 1 + 1, 0, none⟩) 6 6]) : Array Value) 84 (0, 0)))
 clear hb
 go_enter Try.func51, Try.ntmps51
 go_wp2_with fail
 go_ret
 refine ⟨⟨_, rfl, ?_⟩, ?_⟩
 ·exact h.out
 ·exact HB.out
end Go.Proofs.Ytkaekiodjjhjkaa
namespace Go.Proofs.Ytkaekiodjjhjkaa
open Go.RowKit
theorem own_pos {w : World} {n₀ e s n c : Nat} {a : Option Addr} {xs : List Value} (h : w.ownsRow n₀ e s (.slice a n c) n xs) (hn : 0 < n) : ∃ g, a = some ⟨g, 0, none⟩ := by
 rcases h.2 with ⟨h1, _⟩ | ⟨g, c', cur, e, _⟩
 ·simp only [Value.slice.injEq] at h1
  omega
 ·simp only [Value.slice.injEq] at e
  exact ⟨g, e.1⟩
theorem own_cap {w : World} {base e sz g n c : Nat} {xs : List Value} (h : w.ownsRow base e sz (.slice (some ⟨g, 0, none⟩) n c) n xs) : n ≤ c ∧ c ≤ maxLen ∧ base ≤ g ∧ g < w.heap.size := by
 rcases h.2 with ⟨h', _⟩ | ⟨g', cap', cur, h', hb, hg, h1, h2, h3, h4⟩
 ·simp at h'
 ·simp only [Value.slice.injEq, Option.some.injEq, Addr.mk.injEq, and_true, true_and] at h'
  obtain ⟨rfl, rfl⟩ := h'
  exact ⟨h1, h2, hb, (Array.getElem?_eq_some_iff.1 hg).1⟩
theorem own_put {w : World} {base e g n cap i : Nat} {xs : List Value} (h : w.ownsRow base e 6 (.slice (some ⟨g, 0, none⟩) n cap) n xs) (hi : i < n * 6) (x : Value) : (w.setCell ⟨g, i, none⟩ x).ownsRow base e 6 (.slice (some ⟨g, 0, none⟩) n cap) n (xs.set i x) := by
 refine ⟨by rw [List.length_set]; exact h.1, ?_⟩
 rcases h.2 with ⟨h', _⟩ | ⟨g', cap', cur, h', hb, hg, h1, h2, h3, h4⟩
 ·simp at h'
 ·simp only [Value.slice.injEq, Option.some.injEq, Addr.mk.injEq, and_true, true_and] at h'
  obtain ⟨rfl, rfl⟩ := h'
  obtain ⟨hlt, hk⟩ := Array.getElem?_eq_some_iff.1 hg
  refine .inr ⟨g, cap, cur.setIfInBounds i x, rfl, hb, ?_, h1, h2, by simpa using h3, ?_⟩
  ·show (w.heap.modify g _)[g]? = _
   rw [Array.getElem?_eq_getElem (by rw [Array.size_modify]; exact hlt), Array.getElem_modify_self, hk]
   rfl
  ·rw [← h4]; simp [List.take_set]
theorem flat_cons (x : I6) (xs : List I6) : flat (x :: xs) = Value.int .i64 x.o :: .int .i64 x.d :: .int .i64 x.s :: .int .i64 x.f :: .int .i64 x.i :: .int .i64 x.z :: flat xs := rfl
theorem flat_put : ∀ (xs : List I6) (k j : Nat) (v : Int), j < 6 → k < xs.length → ∃ ys : List I6, ys.length = xs.length ∧ flat ys = (flat xs).set (k * 6 + j) (.int .i64 v)
 | [], k, j, v, _, h => by simp at h
 | x :: xs, 0, j, v, hj, _ => by
   match j, hj with
   | 0, _ => exact ⟨⟨v, x.d, x.s, x.f, x.i, x.z⟩ :: xs, rfl, rfl⟩
   | 1, _ => exact ⟨⟨x.o, v, x.s, x.f, x.i, x.z⟩ :: xs, rfl, rfl⟩
   | 2, _ => exact ⟨⟨x.o, x.d, v, x.f, x.i, x.z⟩ :: xs, rfl, rfl⟩
   | 3, _ => exact ⟨⟨x.o, x.d, x.s, v, x.i, x.z⟩ :: xs, rfl, rfl⟩
   | 4, _ => exact ⟨⟨x.o, x.d, x.s, x.f, v, x.z⟩ :: xs, rfl, rfl⟩
   | 5, _ => exact ⟨⟨x.o, x.d, x.s, x.f, x.i, v⟩ :: xs, rfl, rfl⟩
   | j + 6, h => omega
 | x :: xs, k + 1, j, v, hj, hk => by
   obtain ⟨ys, h1, h2⟩ := flat_put xs k j v hj (by simpa using hk)
   refine ⟨x :: ys, by simp [h1], ?_⟩
   have e : (k + 1) * 6 + j = (k * 6 + j) + 6 := by omega
   rw [flat_cons, flat_cons, h2, e]
   rfl
theorem flat_take : ∀ (xs : List I6) (k : Nat), flat (xs.take k) = (flat xs).take (k * 6)
 | [], k => by simp [flat]
 | x :: xs, 0 => by simp [flat]
 | x :: xs, k + 1 => by
   have e : (k + 1) * 6 = k * 6 + 6 := by omega
   rw [List.take_succ_cons, flat_cons, flat_cons, flat_take xs k, e]
   rfl
theorem flat_drop : ∀ (xs : List I6) (k : Nat), flat (xs.drop k) = (flat xs).drop (k * 6)
 | [], k => by simp [flat]
 | x :: xs, 0 => by simp
 | x :: xs, k + 1 => by
   have e : (k + 1) * 6 = k * 6 + 6 := by omega
   rw [List.drop_succ_cons, flat_cons, flat_drop xs k, e]
   rfl
theorem flat_app (xs ys : List I6) : flat (xs ++ ys) = flat xs ++ flat ys := by simp [flat]
theorem flat_one (xs : List I6) : ∀ u ∈ flat xs, u.oneCell' = true := by
 intro u hu
 simp only [flat, List.mem_flatMap, List.mem_cons, List.not_mem_nil, or_false] at hu
 obtain ⟨x, _, h⟩ := hu
 rcases h with rfl | rfl | rfl | rfl | rfl | rfl <;> rfl
theorem row_front {w : World} {base e g n c k : Nat} {xs : List I6} (h : w.ownsRow base e 6 (.slice (some ⟨g, 0, none⟩) n c) n (flat xs)) (hk : k ≤ n) : ∀ j u, (flat (xs.take k))[j]? = some u → w.cell? ((⟨g, 0, none⟩ : Addr).add j) = some u := by
 intro j u hj
 rw [flat_take] at hj
 have hl : j < ((flat xs).take (k * 6)).length := (List.getElem?_eq_some_iff.1 hj).1
 rw [List.length_take] at hl
 rw [Addr.add_lit, Nat.zero_add, h.cellAt j (by omega), ← hj, List.getElem?_take, if_pos (by omega)]
theorem row_back {w : World} {base e g n c k : Nat} {xs : List I6} (h : w.ownsRow base e 6 (.slice (some ⟨g, 0, none⟩) n c) n (flat xs)) : ∀ j u, (flat (xs.drop k))[j]? = some u → w.cell? ((⟨g, k * 6, none⟩ : Addr).add j) = some u := by
 intro j u hj
 rw [flat_drop] at hj
 have hl : j < ((flat xs).drop (k * 6)).length := (List.getElem?_eq_some_iff.1 hj).1
 have h1 := h.1
 rw [List.length_drop] at hl
 rw [Addr.add_lit, h.cellAt (k * 6 + j) (by omega), ← hj, List.getElem?_drop]
theorem made06 (w : World) (base B : Nat) (e : TypeId) (hB : B = w.heap.size) (hb : base ≤ w.heap.size) : (w.alloc (.cells #[] e)).ownsRow base e 6 (.slice (some ⟨B, 0, none⟩) 0 0) 0 [] := by
 subst hB
 exact ⟨rfl, .inr ⟨w.heap.size, 0, #[], rfl, hb, World.alloc_heap_new w _, Nat.le_refl _, Nat.zero_le _, rfl, rfl⟩⟩
theorem own_apart {w : World} {base e sz n m g c : Nat} {v : Value} {xs : List Value} (h : w.ownsRow base e sz v n xs) (hg : g < base) : (Value.slice (some ⟨g, 0, none⟩) m c).ownBlock = none ∨ (Value.slice (some ⟨g, 0, none⟩) m c).ownBlock ≠ v.ownBlock := by
 right
 intro e1
 have := own_base h g e1.symm
 omega
section
variable {w0 w w' : World} {B : Nat} {a : Option Addr} {len cap p q : Nat}
theorem K3.other {L : Nat} {v : Value} (h : RS w0 w B a len cap p) (hc : w.cell? ⟨L, 1, none⟩ = some v) (hv : ∀ i, v ≠ .int .i64 i) : L ≠ B := by
 rintro rfl
 simp only [World.cell?, h.box] at hc
 simp at hc
 exact hv _ hc.symm
theorem K3.cellO {L j : Nat} (k : K3 w0 w w' B a len cap q) (hL : L < w.heap.size) (hne : L ≠ B) : w'.cell? ⟨L, j, none⟩ = w.cell? ⟨L, j, none⟩ := World.cell?_of_block (k.kp.2 L hL hne)
theorem LnAt.k3 {v : Value} (h : RS w0 w B a len cap p) (k : K3 w0 w w' B a len cap q) (hv : LnAt w v) : LnAt w' v := by
 obtain ⟨L, l, e, ⟨h1, h2⟩, h3, h4⟩ := hv
 have hne : L ≠ B := K3.other h (h2 1 (by omega)) (fun i => by simp)
 refine ⟨L, l, e, ⟨Nat.lt_of_lt_of_le h1 k.kp.1, fun i hi => ?_⟩, h3, h4⟩
 rw [k.cellO h1 hne]
 exact h2 i hi
theorem LnAll.k3 {G : Nat} (h : RS w0 w B a len cap p) (k : K3 w0 w w' B a len cap q) (hv : LnAll w G) : LnAll w' G := by
 obtain ⟨h1, h2⟩ := hv
 have hne : G ≠ B := by
  obtain ⟨v, hc, L, l, e, _⟩ := h2 1 (by omega)
  exact K3.other h hc (fun i => by simp [e])
 refine ⟨Nat.lt_of_lt_of_le h1 k.kp.1, fun j hj => ?_⟩
 obtain ⟨v, hc, hl⟩ := h2 j hj
 exact ⟨v, by rw [k.cellO h1 hne]; exact hc, hl.k3 h k⟩
end
def AnL (base : Nat) (w' : World) (e : Ending) : Prop := ∃ (xs : List I6) (x : Option Addr) (n c : Nat), e = .returned (.slice x n c) ∧ xs.length = n ∧ 1 ≤ n ∧ n ≤ 41 ∧ w'.ownsRow base 86 6 (.slice x n c) n (flat xs)
end Go.Proofs.Ytkaekiodjjhjkaa
namespace Go.Proofs.Ytkaekiodjjhjkaa
open Go.RowKit
theorem prog_k {w0 w : World} {B : Nat} {a : Option Addr} {len cap p : Nat} (h : RS w0 w B a len cap p) (hp : p ≤ 600000) :
 Calls Try.prog 30 #[.pointer (some ⟨B, 0, none⟩)] w fun e w' => AnL w.heap.size w' e ∧ ∃ q, q ≤ p + 450 ∧ K3 w0 w w' B a len cap q := by
 obtain ⟨i0, hi, hz0, hz1, hz2⟩ := info_parts info25
 have H := hid h
 clear h
 go_enter Try.func30, Try.ntmps30
 go_wp2_with fail
 refine (make_k H.out (by omega)).mono ?_
 rintro e w1 ⟨⟨xs, x, c, rfl, hx1, hx40, hr⟩, q, hq, kk⟩
 have HR := hid hr
 have HD := hid kk
 have HL := hid (rfl : xs.length = xs.length)
 clear hr kk H
 obtain ⟨n, hnn⟩ : ∃ n, xs.length = n := ⟨_, rfl⟩
 rw [hnn] at HR hx1 hx40
 replace HL := hid hnn
 try rw [hnn]
 clear hnn
 go_wp2_with fail
 refine (pick_k HD.out.rs (by omega) 2 (by omega) (by omega)).mono ?_
 rintro e w2 ⟨m2, rfl, hm2, kk⟩
 replace HR := hid (row_kept (by decide) HD.out.rs kk HR.out)
 replace HD := hid (HD.out.draw kk)
 clear kk
 have hm20 : (0 : Int) ≤ (m2 : Int) := by omega
 generalize (m2 : Int) = y2 at *
 have hc2 : y2 = 0 ∨ 0 < y2 := by omega
 rcases hc2 with rfl | hy2
 ·skip
  go_wp2_with fail
  refine (lines_w _).mono ?_
  rintro e w3 ⟨⟨G, rfl, hall⟩, b3⟩
  replace HD := hid (HD.out.below b3)
  have HG := hid hall
  clear b3 hall HR HL hx1 hx40
  skip
  go_wp2_with fail
  refine (pick_k HD.out.rs (by omega) 15 (by omega) (by omega)).mono ?_
  rintro e wl ⟨ml, rfl, hml, kk⟩
  replace HG := hid (HG.out.k3 HD.out.rs kk)
  replace HD := hid (HD.out.draw kk)
  clear kk
  obtain ⟨v, hcell, L, l, rfl, hsl, hl2, hl13, hsz⟩ := HG.out.2 ml (by omega)
  have hml0 : (0 : Int) ≤ (ml : Int) := by omega
  have hGl := HG.out.1
  have HS := hid hsl
  have HZ := hid hsz
  clear hsl hsz
  go_wp2_with fail
  clear hcell
  refine (rdl_w l L l.length _ HS.out (by omega) HZ.out).mono ?_
  rintro e wr ⟨⟨xs, v0, rfl, hxl, hr⟩, b5⟩
  have HR := hid (own_mono hr HD.out.kp.1)
  replace HD := hid (HD.out.below b5)
  clear b5 hr
  obtain ⟨x, c, rfl⟩ := own_slice HR.out
  have hx1 : 1 ≤ xs.length := by omega
  have hx40 : xs.length ≤ 40 := by omega
  obtain ⟨n, hnn⟩ : ∃ n, xs.length = n := ⟨_, rfl⟩
  rw [hnn] at HR hx1 hx40
  have HL := hid hnn
  try rw [hnn]
  clear hxl HS HZ HG hnn
  obtain ⟨g, rfl⟩ := own_pos HR.out (by omega)
  have hn1 : (1 : Int) ≤ (n : Int) := by omega
  have hn2 : (n : Int) ≤ 40 := by omega
  go_wp2_with fail
  refine (pick_k HD.out.rs (by omega) 4 (by omega) (by omega)).mono ?_
  rintro e w4 ⟨m4, rfl, hm4, kk⟩
  replace HR := hid (row_kept (by decide) HD.out.rs kk HR.out)
  replace HD := hid (HD.out.draw kk)
  clear kk
  have hm40 : (0 : Int) ≤ (m4 : Int) := by omega
  generalize (m4 : Int) = y4 at *
  have hc4 : y4 = 0 ∨ 0 < y4 := by omega
  rcases hc4 with rfl | hy4
  ·go_wp2_with fail
   refine (pick_k HD.out.rs (by omega) _ (by omega) (by omega)).mono ?_
   rintro e w5 ⟨k, rfl, hk, kk⟩
   replace HR := hid (row_kept (by decide) HD.out.rs kk HR.out)
   replace HD := hid (HD.out.draw kk)
   clear kk
   have hk0 : (0 : Int) ≤ (k : Int) := by omega
   go_wp2_with fail
   refine (pick_k HD.out.rs (by omega) 6 (by omega) (by omega)).mono ?_
   rintro e w6 ⟨m6, rfl, hm6, kk⟩
   replace HR := hid (row_kept (by decide) HD.out.rs kk HR.out)
   replace HD := hid (HD.out.draw kk)
   clear kk
   have hm60 : (0 : Int) ≤ (m6 : Int) := by omega
   generalize (m6 : Int) = y6 at *
   have hc6 : y6 = 0 ∨ y6 = 1 ∨ y6 = 2 ∨ y6 = 3 ∨ y6 = 4 ∨ 4 < y6 := by omega
   rcases hc6 with rfl | rfl | rfl | rfl | rfl | hy6
   ·go_wp2_with fail
    refine (imm_k HD.out.rs (by omega)).mono ?_
    rintro e w7 ⟨v, rfl, hv, kk⟩
    replace HR := hid (row_kept (by decide) HD.out.rs kk HR.out)
    replace HD := hid (HD.out.draw kk)
    clear kk
    obtain ⟨⟨u0, hu0⟩, hf0⟩ := room_own HR.out (k * 6 + 4) (by omega)
    obtain ⟨_, _, gb, lg⟩ := own_cap HR.out
    obtain ⟨ys, hy1, hy2⟩ := flat_put xs k 4 (v : Int) (by omega) (by have := HL.out; omega)
    have h2 := own_put HR.out (show k * 6 + 4 < n * 6 by omega) (.int .i64 (v : Int))
    rw [← hy2] at h2
    have HR2 := hid h2
    have HD2 := hid (HD.out.set ⟨g, k * 6 + 4, none⟩ (.int .i64 (v : Int)) gb)
    have HY := hid (hy1.trans HL.out)
    clear h2 hy1 hy2
    go_wp2_with fail
    go_ret
    exact ⟨⟨ys, _, _, _, rfl, HY.out, by omega, by omega, HR2.out⟩, _, by omega, HD2.out⟩
   ·go_wp2_with fail
    refine (one_k HD.out.rs (by omega) [-1, 0, 1, 2, -2, 12, 200] 3 (by decide) (by decide)).mono ?_
    rintro e w7 ⟨v, hv, rfl, kk⟩
    clear hv
    replace HR := hid (row_kept (by decide) HD.out.rs kk HR.out)
    replace HD := hid (HD.out.draw kk)
    clear kk
    obtain ⟨⟨u0, hu0⟩, hf0⟩ := room_own HR.out (k * 6 + 3) (by omega)
    obtain ⟨_, _, gb, lg⟩ := own_cap HR.out
    obtain ⟨ys, hy1, hy2⟩ := flat_put xs k 3 (v) (by omega) (by have := HL.out; omega)
    have h2 := own_put HR.out (show k * 6 + 3 < n * 6 by omega) (.int .i64 (v))
    rw [← hy2] at h2
    have HR2 := hid h2
    have HD2 := hid (HD.out.set ⟨g, k * 6 + 3, none⟩ (.int .i64 (v)) gb)
    have HY := hid (hy1.trans HL.out)
    clear h2 hy1 hy2
    go_wp2_with fail
    go_ret
    exact ⟨⟨ys, _, _, _, rfl, HY.out, by omega, by omega, HR2.out⟩, _, by omega, HD2.out⟩
   ·go_wp2_with fail
    refine (pick_k HD.out.rs (by omega) 12 (by omega) (by omega)).mono ?_
    rintro e w7 ⟨m7, rfl, hm7, kk⟩
    replace HR := hid (row_kept (by decide) HD.out.rs kk HR.out)
    replace HD := hid (HD.out.draw kk)
    clear kk
    have hm70 : (0 : Int) ≤ (m7 : Int) := by omega
    obtain ⟨⟨u0, hu0⟩, hf0⟩ := room_own HR.out (k * 6 + 1) (by omega)
    obtain ⟨_, _, gb, lg⟩ := own_cap HR.out
    obtain ⟨ys, hy1, hy2⟩ := flat_put xs k 1 (m7 : Int) (by omega) (by have := HL.out; omega)
    have h2 := own_put HR.out (show k * 6 + 1 < n * 6 by omega) (.int .i64 (m7 : Int))
    rw [← hy2] at h2
    have HR2 := hid h2
    have HD2 := hid (HD.out.set ⟨g, k * 6 + 1, none⟩ (.int .i64 (m7 : Int)) gb)
    have HY := hid (hy1.trans HL.out)
    clear h2 hy1 hy2
    go_wp2_with fail
    go_ret
    exact ⟨⟨ys, _, _, _, rfl, HY.out, by omega, by omega, HR2.out⟩, _, by omega, HD2.out⟩
   ·go_wp2_with fail
    refine (pick_k HD.out.rs (by omega) 22 (by omega) (by omega)).mono ?_
    rintro e w7 ⟨m7, rfl, hm7, kk⟩
    replace HR := hid (row_kept (by decide) HD.out.rs kk HR.out)
    replace HD := hid (HD.out.draw kk)
    clear kk
    have hm70 : (0 : Int) ≤ (m7 : Int) := by omega
    obtain ⟨⟨u0, hu0⟩, hf0⟩ := room_own HR.out (k * 6) (by omega)
    obtain ⟨_, _, gb, lg⟩ := own_cap HR.out
    obtain ⟨ys, hy1, hy2⟩ := flat_put xs k 0 (m7 : Int) (by omega) (by have := HL.out; omega)
    have h2 := own_put HR.out (show k * 6 < n * 6 by omega) (.int .i64 (m7 : Int))
    rw [Nat.add_zero] at hy2
    rw [← hy2] at h2
    have HR2 := hid h2
    have HD2 := hid (HD.out.set ⟨g, k * 6, none⟩ (.int .i64 (m7 : Int)) gb)
    have HY := hid (hy1.trans HL.out)
    clear h2 hy1 hy2
    go_wp2_with fail
    go_ret
    exact ⟨⟨ys, _, _, _, rfl, HY.out, by omega, by omega, HR2.out⟩, _, by omega, HD2.out⟩
   ·go_wp2_with fail
    refine (pick_k HD.out.rs (by omega) 12 (by omega) (by omega)).mono ?_
    rintro e w7 ⟨m7, rfl, hm7, kk⟩
    replace HR := hid (row_kept (by decide) HD.out.rs kk HR.out)
    replace HD := hid (HD.out.draw kk)
    clear kk
    have hm70 : (0 : Int) ≤ (m7 : Int) := by omega
    have hw7 : IntKind.i64.wrap ((m7 : Int) - 1) = (m7 : Int) - 1 := by rw [IntKind.wrap_i64]; omega
    obtain ⟨⟨u0, hu0⟩, hf0⟩ := room_own HR.out (k * 6 + 2) (by omega)
    obtain ⟨_, _, gb, lg⟩ := own_cap HR.out
    obtain ⟨ys, hy1, hy2⟩ := flat_put xs k 2 ((m7 : Int) - 1) (by omega) (by have := HL.out; omega)
    have h2 := own_put HR.out (show k * 6 + 2 < n * 6 by omega) (.int .i64 ((m7 : Int) - 1))
    rw [← hy2] at h2
    have HR2 := hid h2
    have HD2 := hid (HD.out.set ⟨g, k * 6 + 2, none⟩ (.int .i64 ((m7 : Int) - 1)) gb)
    have HY := hid (hy1.trans HL.out)
    clear h2 hy1 hy2
    go_wp2_with fail
    go_ret
    exact ⟨⟨ys, _, _, _, rfl, HY.out, by omega, by omega, HR2.out⟩, _, by omega, HD2.out⟩
   ·have z0 : (y6 == 0) = false := by simp; omega
    have z1 : (y6 == 1) = false := by simp; omega
    have z2 : (y6 == 2) = false := by simp; omega
    have z3 : (y6 == 3) = false := by simp; omega
    have z4 : (y6 == 4) = false := by simp; omega
    obtain ⟨hnc, hcm, gb, lg⟩ := own_cap HR.out
    have hc0 : ¬ c = 0 := by omega
    have hck : ¬ c = k := by omega
    have hki : (k : Int) ≤ (c : Int) := by omega
    have hkn : (k : Int) ≤ (n : Int) := by omega
    have hkn0 : ¬ ((k : Int) < 0) := by omega
    go_wp2_with fail
    refine wp_region_held_drew (S := (fun _ => True)) (by kernel_rfl) (trivial) (fun hHeld => ?_)
    have bd : Below w6.heap.size w6 w6.drew := (Below.refl _ _).drew
    replace HR := hid (own_below HR.out bd)
    replace HD := hid (HD.out.below bd)
    clear bd lg
    generalize w6.drew = W1 at *
    have lg1 := (own_cap HR.out).2.2.2
    have lw1 := HD.out.kp.1
    refine tkH 1 13 hHeld ?_
    try simp only [Act.put, sA, sB, sC]
    refine tkH 2 12 hHeld ?_
    try simp only [Act.put, sA, sB, sC]
    refine wpAnyH_take (i := 3) (oi := ?oi3) (v := .slice (some ⟨g, 0, none⟩) k c) (fuel := 11) ?hi3 ?hs3 ?hf3 ?hr3 ?hq3 (Or.inl ⟨?hw3, ?hy3⟩) hHeld ?rest3
    case hi3 => rw [List.getElem?_toArray]; rfl
    case hq3 => exact fun _ _ _ h => h
    case hs3 | hf3 | hr3 => kernel_rfl
    case hw3 => rfl
    case hy3 => (intro w1 hSw; (try dsimp only at hSw); go_simp; try simp [Addr.add, hc0, hki])
    try simp only [Act.put, sA, sB, sC]
    refine tkH 5 10 hHeld ?_
    try simp only [Act.put, sA, sB, sC]
    refine tkH 9 9 hHeld ?_
    try simp only [Act.put, sA, sB, sC]
    refine tkH 10 8 hHeld ?_
    try simp only [Act.put, sA, sB, sC]
    refine wpAnyH_take (i := 11) (oi := ?oi7) (v := .slice (some ⟨g, k * 6, none⟩) (n - k) (c - k)) (fuel := 7) ?hi7 ?hs7 ?hf7 ?hr7 ?hq7 (Or.inl ⟨?hw7, ?hy7⟩) hHeld ?rest7
    case hi7 => rw [List.getElem?_toArray]; rfl
    case hq7 => exact fun _ _ _ h => h
    case hs7 | hf7 | hr7 => kernel_rfl
    case hw7 => rfl
    case hy7 => (intro w1 hSw; (try dsimp only at hSw); go_simp; try simp [Addr.add, hck, hki, hkn])
    try simp only [Act.put, sA, sB, sC]
    refine wpAnyH_ready (fuel := 6) (rs := [0]) (by kernel_rfl) (by simp) ?_
    refine AllReadyH.cons (by rw [List.getElem?_toArray]; rfl) (fun K hK => ?_) AllReadyH.nil
    go_simp
    have L0 := hid (made06 W1 W1.heap.size W1.heap.size 86 rfl (Nat.le_refl _))
    have ba : Below W1.heap.size W1 (W1.alloc (.cells #[] 86)) := (Below.refl _ _).alloc (Nat.le_refl _) _
    have hs0 := ba.size
    replace HR := hid (own_below HR.out ba)
    replace HD := hid (HD.out.below ba)
    clear ba
    generalize W1.alloc (.cells #[] 86) = wr0 at *
    generalize W1.heap.size = G0 at *
    refine hK.out _ _ ?hS8 (fun hHeld => ?re8)
    case hS8 => trivial
    clear hK K
    try simp only [Act.put, sA, sB, sC]
    refine wpAnyH_ready (fuel := 5) (rs := [4]) (by kernel_rfl) (by simp) ?_
    refine AllReadyH.cons (by rw [List.getElem?_toArray]; rfl) (fun K hK => ?_) AllReadyH.nil
    rw [if_pos (by first | rfl | kernel_rfl)]
    refine wp_append_own _ _ _ 40 rfl G0 86 i0 (.agg #[.int .i64 0, .int .i64 0, .int .i64 0, .int .i64 0, .int .i64 0, .int .i64 0]) 6 48 Try.underlying40 hi hz0 hz1 hz2 rfl (by decide) _ _ _ rfl L0.out ⟨g, 0, none⟩ k c (flat (xs.take k)) rfl (by rw [flat_length, List.length_take]; have := HL.out; omega) (row_front HR.out (by omega)) (flat_one _) (by unfold maxLen; omega) (by omega) hs0 ?_
    intro v1 wr4 hown1 hgrow1 _
    have hs4 := hgrow1.size
    replace HR := hid (HR.out.kept hgrow1 (own_apart L0.out lg1))
    replace HD := hid (HD.out.belowN ((Below.refl _ _).grown hgrow1 HD.out.kp.1 (fun j hj => Nat.le_trans lw1 (own_base L0.out j hj))))
    have L1 := hid hown1
    clear hown1 hgrow1 L0
    refine hK.out _ _ ?hS9 (fun hHeld => ?re9)
    case hS9 => trivial
    clear hK K
    try simp only [Act.put, sA, sB, sC]
    refine wpAnyH_ready (fuel := 4) (rs := [6]) (by kernel_rfl) (by simp) ?_
    refine AllReadyH.cons (by rw [List.getElem?_toArray]; rfl) (fun K hK => ?_) AllReadyH.nil
    go_simp
    refine (alu_k HD.out.rs (by omega)).mono ?_
    rintro ee wr6 ⟨⟨z0, z1, z2, z3, z4, z5, rfl⟩, q2, hq2, kk⟩
    have hs6 := kk.kp.1
    replace HR := hid (row_kept (by decide) HD.out.rs kk HR.out)
    replace L1 := hid (row_kept (by decide) HD.out.rs kk L1.out)
    replace HD := hid (HD.out.draw kk)
    clear kk
    go_wp2_with fail
    refine hK.out _ _ ?hS10 (fun hHeld => ?re10)
    case hS10 => trivial
    clear hK K
    try simp only [Act.put, sA, sB, sC]
    refine wpAnyH_ready (fuel := 3) (rs := [7]) (by kernel_rfl) (by simp) ?_
    refine AllReadyH.cons (by rw [List.getElem?_toArray]; rfl) (fun K hK => ?_) AllReadyH.nil
    go_simp
    have NW := hid (news6e wr6 z0 z1 z2 z3 z4 z5 rfl)
    have ba : Below wr6.heap.size wr6 (wr6.alloc (.cells #[.int .i64 z0, .int .i64 z1, .int .i64 z2, .int .i64 z3, .int .i64 z4, .int .i64 z5] 86)) := (Below.refl _ _).alloc (Nat.le_refl _) _
    have hs7 := ba.size
    replace HR := hid (own_below HR.out ba)
    replace L1 := hid (own_below L1.out ba)
    replace HD := hid (HD.out.below ba)
    clear ba
    generalize wr6.alloc (.cells #[.int .i64 z0, .int .i64 z1, .int .i64 z2, .int .i64 z3, .int .i64 z4, .int .i64 z5] 86) = wr7 at *
    generalize wr6.heap.size = G7 at *
    refine hK.out _ _ ?hS11 (fun hHeld => ?re11)
    case hS11 => trivial
    clear hK K
    try simp only [Act.put, sA, sB, sC]
    refine wpAnyH_ready (fuel := 2) (rs := [8]) (by kernel_rfl) (by simp) ?_
    refine AllReadyH.cons (by rw [List.getElem?_toArray]; rfl) (fun K hK => ?_) AllReadyH.nil
    rw [if_pos (by first | rfl | kernel_rfl)]
    refine wp_append_own _ _ _ 40 rfl G0 86 i0 (.agg #[.int .i64 0, .int .i64 0, .int .i64 0, .int .i64 0, .int .i64 0, .int .i64 0]) 6 48 Try.underlying40 hi hz0 hz1 hz2 rfl (by decide) _ _ _ rfl L1.out ⟨G7, 0, none⟩ 1 1 [.int .i64 z0, .int .i64 z1, .int .i64 z2, .int .i64 z3, .int .i64 z4, .int .i64 z5] rfl rfl NW.out (by simp [Value.oneCell']) (by unfold maxLen; omega) (by omega) (by omega) ?_
    intro v2 wr8 hown1 hgrow1 _
    have hs8 := hgrow1.size
    replace HR := hid (HR.out.kept hgrow1 (own_apart L1.out lg1))
    replace HD := hid (HD.out.belowN ((Below.refl _ _).grown hgrow1 HD.out.kp.1 (fun j hj => Nat.le_trans lw1 (own_base L1.out j hj))))
    have L2 := hid hown1
    clear hown1 hgrow1 L1 NW
    refine hK.out _ _ ?hS12 (fun hHeld => ?re12)
    case hS12 => trivial
    clear hK K
    try simp only [Act.put, sA, sB, sC]
    refine wpAnyH_ready (fuel := 1) (rs := [12]) (by kernel_rfl) (by simp) ?_
    refine AllReadyH.cons (by rw [List.getElem?_toArray]; rfl) (fun K hK => ?_) AllReadyH.nil
    rw [if_pos (by first | rfl | kernel_rfl)]
    refine wp_append_own _ _ _ 40 rfl G0 86 i0 (.agg #[.int .i64 0, .int .i64 0, .int .i64 0, .int .i64 0, .int .i64 0, .int .i64 0]) 6 48 Try.underlying40 hi hz0 hz1 hz2 rfl (by decide) _ _ _ rfl L2.out ⟨g, k * 6, none⟩ (n - k) (c - k) (flat (xs.drop k)) rfl (by rw [flat_length, List.length_drop, HL.out]) (row_back HR.out) (flat_one _) (by unfold maxLen; omega) (by omega) (by omega) ?_
    intro v3 wr12 hown1 hgrow1 _
    replace HR := hid (HR.out.kept hgrow1 (own_apart L2.out lg1))
    replace HD := hid (HD.out.belowN ((Below.refl _ _).grown hgrow1 HD.out.kp.1 (fun j hj => Nat.le_trans lw1 (own_base L2.out j hj))))
    have L3 := hid hown1
    clear hown1 hgrow1 L2
    refine hK.out _ _ ?hS13 (fun hHeld => ?re13)
    case hS13 => trivial
    clear hK K
    try simp only [Act.put, sA, sB, sC]
    refine tkH 13 0 hHeld ?_
    try simp only [Act.put, sA, sB, sC]
    refine wpAnyH_done (by kernel_rfl) ?_ _
    clear hHeld
    have L4 : Hid (wr12.ownsRow w.heap.size 86 6 v3 (n + 1) (flat (xs.take k ++ [(⟨z0, z1, z2, z3, z4, z5⟩ : I6)] ++ xs.drop k))) := by
     have e1 : n + 1 = 0 + k + 1 + (n - k) := by omega
     show World.ownsRow _ _ _ _ _ _ _
     rw [e1, flat_app, flat_app]
     exact own_mono L3.out lw1
    have HLY : Hid ((xs.take k ++ [(⟨z0, z1, z2, z3, z4, z5⟩ : I6)] ++ xs.drop k).length = n + 1) := by
     show _ = _
     have := HL.out
     simp only [List.length_append, List.length_take, List.length_drop, List.length_cons, List.length_nil]
     omega
    generalize xs.take k ++ [(⟨z0, z1, z2, z3, z4, z5⟩ : I6)] ++ xs.drop k = ys at *
    obtain ⟨a9, c9, rfl⟩ := own_slice L4.out
    clear L3 HR
    go_wp2_with fail
    go_ret
    exact ⟨⟨ys, _, _, _, rfl, HLY.out, by omega, by omega, L4.out⟩, _, by omega, HD.out⟩
  ·have z : (y4 == 0) = false := by simp; omega
   go_wp2_with fail
   go_ret
   exact ⟨⟨xs, _, _, _, rfl, HL.out, by omega, by omega, HR.out⟩, _, by omega, HD.out⟩
 ·have z : (y2 == 0) = false := by simp; omega
  obtain ⟨g, rfl⟩ := own_pos HR.out (by omega)
  have hn1 : (1 : Int) ≤ (n : Int) := by omega
  have hn2 : (n : Int) ≤ 40 := by omega
  go_wp2_with fail
  refine (pick_k HD.out.rs (by omega) 4 (by omega) (by omega)).mono ?_
  rintro e w4 ⟨m4, rfl, hm4, kk⟩
  replace HR := hid (row_kept (by decide) HD.out.rs kk HR.out)
  replace HD := hid (HD.out.draw kk)
  clear kk
  have hm40 : (0 : Int) ≤ (m4 : Int) := by omega
  generalize (m4 : Int) = y4 at *
  have hc4 : y4 = 0 ∨ 0 < y4 := by omega
  rcases hc4 with rfl | hy4
  ·go_wp2_with fail
   refine (pick_k HD.out.rs (by omega) _ (by omega) (by omega)).mono ?_
   rintro e w5 ⟨k, rfl, hk, kk⟩
   replace HR := hid (row_kept (by decide) HD.out.rs kk HR.out)
   replace HD := hid (HD.out.draw kk)
   clear kk
   have hk0 : (0 : Int) ≤ (k : Int) := by omega
   go_wp2_with fail
   refine (pick_k HD.out.rs (by omega) 6 (by omega) (by omega)).mono ?_
   rintro e w6 ⟨m6, rfl, hm6, kk⟩
   replace HR := hid (row_kept (by decide) HD.out.rs kk HR.out)
   replace HD := hid (HD.out.draw kk)
   clear kk
   have hm60 : (0 : Int) ≤ (m6 : Int) := by omega
   generalize (m6 : Int) = y6 at *
   have hc6 : y6 = 0 ∨ y6 = 1 ∨ y6 = 2 ∨ y6 = 3 ∨ y6 = 4 ∨ 4 < y6 := by omega
   rcases hc6 with rfl | rfl | rfl | rfl | rfl | hy6
   ·go_wp2_with fail
    refine (imm_k HD.out.rs (by omega)).mono ?_
    rintro e w7 ⟨v, rfl, hv, kk⟩
    replace HR := hid (row_kept (by decide) HD.out.rs kk HR.out)
    replace HD := hid (HD.out.draw kk)
    clear kk
    obtain ⟨⟨u0, hu0⟩, hf0⟩ := room_own HR.out (k * 6 + 4) (by omega)
    obtain ⟨_, _, gb, lg⟩ := own_cap HR.out
    obtain ⟨ys, hy1, hy2⟩ := flat_put xs k 4 (v : Int) (by omega) (by have := HL.out; omega)
    have h2 := own_put HR.out (show k * 6 + 4 < n * 6 by omega) (.int .i64 (v : Int))
    rw [← hy2] at h2
    have HR2 := hid h2
    have HD2 := hid (HD.out.set ⟨g, k * 6 + 4, none⟩ (.int .i64 (v : Int)) gb)
    have HY := hid (hy1.trans HL.out)
    clear h2 hy1 hy2
    go_wp2_with fail
    go_ret
    exact ⟨⟨ys, _, _, _, rfl, HY.out, by omega, by omega, HR2.out⟩, _, by omega, HD2.out⟩
   ·go_wp2_with fail
    refine (one_k HD.out.rs (by omega) [-1, 0, 1, 2, -2, 12, 200] 3 (by decide) (by decide)).mono ?_
    rintro e w7 ⟨v, hv, rfl, kk⟩
    clear hv
    replace HR := hid (row_kept (by decide) HD.out.rs kk HR.out)
    replace HD := hid (HD.out.draw kk)
    clear kk
    obtain ⟨⟨u0, hu0⟩, hf0⟩ := room_own HR.out (k * 6 + 3) (by omega)
    obtain ⟨_, _, gb, lg⟩ := own_cap HR.out
    obtain ⟨ys, hy1, hy2⟩ := flat_put xs k 3 (v) (by omega) (by have := HL.out; omega)
    have h2 := own_put HR.out (show k * 6 + 3 < n * 6 by omega) (.int .i64 (v))
    rw [← hy2] at h2
    have HR2 := hid h2
    have HD2 := hid (HD.out.set ⟨g, k * 6 + 3, none⟩ (.int .i64 (v)) gb)
    have HY := hid (hy1.trans HL.out)
    clear h2 hy1 hy2
    go_wp2_with fail
    go_ret
    exact ⟨⟨ys, _, _, _, rfl, HY.out, by omega, by omega, HR2.out⟩, _, by omega, HD2.out⟩
   ·go_wp2_with fail
    refine (pick_k HD.out.rs (by omega) 12 (by omega) (by omega)).mono ?_
    rintro e w7 ⟨m7, rfl, hm7, kk⟩
    replace HR := hid (row_kept (by decide) HD.out.rs kk HR.out)
    replace HD := hid (HD.out.draw kk)
    clear kk
    have hm70 : (0 : Int) ≤ (m7 : Int) := by omega
    obtain ⟨⟨u0, hu0⟩, hf0⟩ := room_own HR.out (k * 6 + 1) (by omega)
    obtain ⟨_, _, gb, lg⟩ := own_cap HR.out
    obtain ⟨ys, hy1, hy2⟩ := flat_put xs k 1 (m7 : Int) (by omega) (by have := HL.out; omega)
    have h2 := own_put HR.out (show k * 6 + 1 < n * 6 by omega) (.int .i64 (m7 : Int))
    rw [← hy2] at h2
    have HR2 := hid h2
    have HD2 := hid (HD.out.set ⟨g, k * 6 + 1, none⟩ (.int .i64 (m7 : Int)) gb)
    have HY := hid (hy1.trans HL.out)
    clear h2 hy1 hy2
    go_wp2_with fail
    go_ret
    exact ⟨⟨ys, _, _, _, rfl, HY.out, by omega, by omega, HR2.out⟩, _, by omega, HD2.out⟩
   ·go_wp2_with fail
    refine (pick_k HD.out.rs (by omega) 22 (by omega) (by omega)).mono ?_
    rintro e w7 ⟨m7, rfl, hm7, kk⟩
    replace HR := hid (row_kept (by decide) HD.out.rs kk HR.out)
    replace HD := hid (HD.out.draw kk)
    clear kk
    have hm70 : (0 : Int) ≤ (m7 : Int) := by omega
    obtain ⟨⟨u0, hu0⟩, hf0⟩ := room_own HR.out (k * 6) (by omega)
    obtain ⟨_, _, gb, lg⟩ := own_cap HR.out
    obtain ⟨ys, hy1, hy2⟩ := flat_put xs k 0 (m7 : Int) (by omega) (by have := HL.out; omega)
    have h2 := own_put HR.out (show k * 6 < n * 6 by omega) (.int .i64 (m7 : Int))
    rw [Nat.add_zero] at hy2
    rw [← hy2] at h2
    have HR2 := hid h2
    have HD2 := hid (HD.out.set ⟨g, k * 6, none⟩ (.int .i64 (m7 : Int)) gb)
    have HY := hid (hy1.trans HL.out)
    clear h2 hy1 hy2
    go_wp2_with fail
    go_ret
    exact ⟨⟨ys, _, _, _, rfl, HY.out, by omega, by omega, HR2.out⟩, _, by omega, HD2.out⟩
   ·go_wp2_with fail
    refine (pick_k HD.out.rs (by omega) 12 (by omega) (by omega)).mono ?_
    rintro e w7 ⟨m7, rfl, hm7, kk⟩
    replace HR := hid (row_kept (by decide) HD.out.rs kk HR.out)
    replace HD := hid (HD.out.draw kk)
    clear kk
    have hm70 : (0 : Int) ≤ (m7 : Int) := by omega
    have hw7 : IntKind.i64.wrap ((m7 : Int) - 1) = (m7 : Int) - 1 := by rw [IntKind.wrap_i64]; omega
    obtain ⟨⟨u0, hu0⟩, hf0⟩ := room_own HR.out (k * 6 + 2) (by omega)
    obtain ⟨_, _, gb, lg⟩ := own_cap HR.out
    obtain ⟨ys, hy1, hy2⟩ := flat_put xs k 2 ((m7 : Int) - 1) (by omega) (by have := HL.out; omega)
    have h2 := own_put HR.out (show k * 6 + 2 < n * 6 by omega) (.int .i64 ((m7 : Int) - 1))
    rw [← hy2] at h2
    have HR2 := hid h2
    have HD2 := hid (HD.out.set ⟨g, k * 6 + 2, none⟩ (.int .i64 ((m7 : Int) - 1)) gb)
    have HY := hid (hy1.trans HL.out)
    clear h2 hy1 hy2
    go_wp2_with fail
    go_ret
    exact ⟨⟨ys, _, _, _, rfl, HY.out, by omega, by omega, HR2.out⟩, _, by omega, HD2.out⟩
   ·have z0 : (y6 == 0) = false := by simp; omega
    have z1 : (y6 == 1) = false := by simp; omega
    have z2 : (y6 == 2) = false := by simp; omega
    have z3 : (y6 == 3) = false := by simp; omega
    have z4 : (y6 == 4) = false := by simp; omega
    obtain ⟨hnc, hcm, gb, lg⟩ := own_cap HR.out
    have hc0 : ¬ c = 0 := by omega
    have hck : ¬ c = k := by omega
    have hki : (k : Int) ≤ (c : Int) := by omega
    have hkn : (k : Int) ≤ (n : Int) := by omega
    have hkn0 : ¬ ((k : Int) < 0) := by omega
    go_wp2_with fail
    refine wp_region_held_drew (S := (fun _ => True)) (by kernel_rfl) (trivial) (fun hHeld => ?_)
    have bd : Below w6.heap.size w6 w6.drew := (Below.refl _ _).drew
    replace HR := hid (own_below HR.out bd)
    replace HD := hid (HD.out.below bd)
    clear bd lg
    generalize w6.drew = W1 at *
    have lg1 := (own_cap HR.out).2.2.2
    have lw1 := HD.out.kp.1
    refine tkH 1 13 hHeld ?_
    try simp only [Act.put, sA, sB, sC]
    refine tkH 2 12 hHeld ?_
    try simp only [Act.put, sA, sB, sC]
    refine wpAnyH_take (i := 3) (oi := ?oi17) (v := .slice (some ⟨g, 0, none⟩) k c) (fuel := 11) ?hi17 ?hs17 ?hf17 ?hr17 ?hq17 (Or.inl ⟨?hw17, ?hy17⟩) hHeld ?rest17
    case hi17 => rw [List.getElem?_toArray]; rfl
    case hq17 => exact fun _ _ _ h => h
    case hs17 | hf17 | hr17 => kernel_rfl
    case hw17 => rfl
    case hy17 => (intro w1 hSw; (try dsimp only at hSw); go_simp; try simp [Addr.add, hc0, hki])
    try simp only [Act.put, sA, sB, sC]
    refine tkH 5 10 hHeld ?_
    try simp only [Act.put, sA, sB, sC]
    refine tkH 9 9 hHeld ?_
    try simp only [Act.put, sA, sB, sC]
    refine tkH 10 8 hHeld ?_
    try simp only [Act.put, sA, sB, sC]
    refine wpAnyH_take (i := 11) (oi := ?oi21) (v := .slice (some ⟨g, k * 6, none⟩) (n - k) (c - k)) (fuel := 7) ?hi21 ?hs21 ?hf21 ?hr21 ?hq21 (Or.inl ⟨?hw21, ?hy21⟩) hHeld ?rest21
    case hi21 => rw [List.getElem?_toArray]; rfl
    case hq21 => exact fun _ _ _ h => h
    case hs21 | hf21 | hr21 => kernel_rfl
    case hw21 => rfl
    case hy21 => (intro w1 hSw; (try dsimp only at hSw); go_simp; try simp [Addr.add, hck, hki, hkn])
    try simp only [Act.put, sA, sB, sC]
    refine wpAnyH_ready (fuel := 6) (rs := [0]) (by kernel_rfl) (by simp) ?_
    refine AllReadyH.cons (by rw [List.getElem?_toArray]; rfl) (fun K hK => ?_) AllReadyH.nil
    go_simp
    have L0 := hid (made06 W1 W1.heap.size W1.heap.size 86 rfl (Nat.le_refl _))
    have ba : Below W1.heap.size W1 (W1.alloc (.cells #[] 86)) := (Below.refl _ _).alloc (Nat.le_refl _) _
    have hs0 := ba.size
    replace HR := hid (own_below HR.out ba)
    replace HD := hid (HD.out.below ba)
    clear ba
    generalize W1.alloc (.cells #[] 86) = wr0 at *
    generalize W1.heap.size = G0 at *
    refine hK.out _ _ ?hS22 (fun hHeld => ?re22)
    case hS22 => trivial
    clear hK K
    try simp only [Act.put, sA, sB, sC]
    refine wpAnyH_ready (fuel := 5) (rs := [4]) (by kernel_rfl) (by simp) ?_
    refine AllReadyH.cons (by rw [List.getElem?_toArray]; rfl) (fun K hK => ?_) AllReadyH.nil
    rw [if_pos (by first | rfl | kernel_rfl)]
    refine wp_append_own _ _ _ 40 rfl G0 86 i0 (.agg #[.int .i64 0, .int .i64 0, .int .i64 0, .int .i64 0, .int .i64 0, .int .i64 0]) 6 48 Try.underlying40 hi hz0 hz1 hz2 rfl (by decide) _ _ _ rfl L0.out ⟨g, 0, none⟩ k c (flat (xs.take k)) rfl (by rw [flat_length, List.length_take]; have := HL.out; omega) (row_front HR.out (by omega)) (flat_one _) (by unfold maxLen; omega) (by omega) hs0 ?_
    intro v1 wr4 hown1 hgrow1 _
    have hs4 := hgrow1.size
    replace HR := hid (HR.out.kept hgrow1 (own_apart L0.out lg1))
    replace HD := hid (HD.out.belowN ((Below.refl _ _).grown hgrow1 HD.out.kp.1 (fun j hj => Nat.le_trans lw1 (own_base L0.out j hj))))
    have L1 := hid hown1
    clear hown1 hgrow1 L0
    refine hK.out _ _ ?hS23 (fun hHeld => ?re23)
    case hS23 => trivial
    clear hK K
    try simp only [Act.put, sA, sB, sC]
    refine wpAnyH_ready (fuel := 4) (rs := [6]) (by kernel_rfl) (by simp) ?_
    refine AllReadyH.cons (by rw [List.getElem?_toArray]; rfl) (fun K hK => ?_) AllReadyH.nil
    go_simp
    refine (alu_k HD.out.rs (by omega)).mono ?_
    rintro ee wr6 ⟨⟨z0, z1, z2, z3, z4, z5, rfl⟩, q2, hq2, kk⟩
    have hs6 := kk.kp.1
    replace HR := hid (row_kept (by decide) HD.out.rs kk HR.out)
    replace L1 := hid (row_kept (by decide) HD.out.rs kk L1.out)
    replace HD := hid (HD.out.draw kk)
    clear kk
    go_wp2_with fail
    refine hK.out _ _ ?hS24 (fun hHeld => ?re24)
    case hS24 => trivial
    clear hK K
    try simp only [Act.put, sA, sB, sC]
    refine wpAnyH_ready (fuel := 3) (rs := [7]) (by kernel_rfl) (by simp) ?_
    refine AllReadyH.cons (by rw [List.getElem?_toArray]; rfl) (fun K hK => ?_) AllReadyH.nil
    go_simp
    have NW := hid (news6e wr6 z0 z1 z2 z3 z4 z5 rfl)
    have ba : Below wr6.heap.size wr6 (wr6.alloc (.cells #[.int .i64 z0, .int .i64 z1, .int .i64 z2, .int .i64 z3, .int .i64 z4, .int .i64 z5] 86)) := (Below.refl _ _).alloc (Nat.le_refl _) _
    have hs7 := ba.size
    replace HR := hid (own_below HR.out ba)
    replace L1 := hid (own_below L1.out ba)
    replace HD := hid (HD.out.below ba)
    clear ba
    generalize wr6.alloc (.cells #[.int .i64 z0, .int .i64 z1, .int .i64 z2, .int .i64 z3, .int .i64 z4, .int .i64 z5] 86) = wr7 at *
    generalize wr6.heap.size = G7 at *
    refine hK.out _ _ ?hS25 (fun hHeld => ?re25)
    case hS25 => trivial
    clear hK K
    try simp only [Act.put, sA, sB, sC]
    refine wpAnyH_ready (fuel := 2) (rs := [8]) (by kernel_rfl) (by simp) ?_
    refine AllReadyH.cons (by rw [List.getElem?_toArray]; rfl) (fun K hK => ?_) AllReadyH.nil
    rw [if_pos (by first | rfl | kernel_rfl)]
    refine wp_append_own _ _ _ 40 rfl G0 86 i0 (.agg #[.int .i64 0, .int .i64 0, .int .i64 0, .int .i64 0, .int .i64 0, .int .i64 0]) 6 48 Try.underlying40 hi hz0 hz1 hz2 rfl (by decide) _ _ _ rfl L1.out ⟨G7, 0, none⟩ 1 1 [.int .i64 z0, .int .i64 z1, .int .i64 z2, .int .i64 z3, .int .i64 z4, .int .i64 z5] rfl rfl NW.out (by simp [Value.oneCell']) (by unfold maxLen; omega) (by omega) (by omega) ?_
    intro v2 wr8 hown1 hgrow1 _
    have hs8 := hgrow1.size
    replace HR := hid (HR.out.kept hgrow1 (own_apart L1.out lg1))
    replace HD := hid (HD.out.belowN ((Below.refl _ _).grown hgrow1 HD.out.kp.1 (fun j hj => Nat.le_trans lw1 (own_base L1.out j hj))))
    have L2 := hid hown1
    clear hown1 hgrow1 L1 NW
    refine hK.out _ _ ?hS26 (fun hHeld => ?re26)
    case hS26 => trivial
    clear hK K
    try simp only [Act.put, sA, sB, sC]
    refine wpAnyH_ready (fuel := 1) (rs := [12]) (by kernel_rfl) (by simp) ?_
    refine AllReadyH.cons (by rw [List.getElem?_toArray]; rfl) (fun K hK => ?_) AllReadyH.nil
    rw [if_pos (by first | rfl | kernel_rfl)]
    refine wp_append_own _ _ _ 40 rfl G0 86 i0 (.agg #[.int .i64 0, .int .i64 0, .int .i64 0, .int .i64 0, .int .i64 0, .int .i64 0]) 6 48 Try.underlying40 hi hz0 hz1 hz2 rfl (by decide) _ _ _ rfl L2.out ⟨g, k * 6, none⟩ (n - k) (c - k) (flat (xs.drop k)) rfl (by rw [flat_length, List.length_drop, HL.out]) (row_back HR.out) (flat_one _) (by unfold maxLen; omega) (by omega) (by omega) ?_
    intro v3 wr12 hown1 hgrow1 _
    replace HR := hid (HR.out.kept hgrow1 (own_apart L2.out lg1))
    replace HD := hid (HD.out.belowN ((Below.refl _ _).grown hgrow1 HD.out.kp.1 (fun j hj => Nat.le_trans lw1 (own_base L2.out j hj))))
    have L3 := hid hown1
    clear hown1 hgrow1 L2
    refine hK.out _ _ ?hS27 (fun hHeld => ?re27)
    case hS27 => trivial
    clear hK K
    try simp only [Act.put, sA, sB, sC]
    refine tkH 13 0 hHeld ?_
    try simp only [Act.put, sA, sB, sC]
    refine wpAnyH_done (by kernel_rfl) ?_ _
    clear hHeld
    have L4 : Hid (wr12.ownsRow w.heap.size 86 6 v3 (n + 1) (flat (xs.take k ++ [(⟨z0, z1, z2, z3, z4, z5⟩ : I6)] ++ xs.drop k))) := by
     have e1 : n + 1 = 0 + k + 1 + (n - k) := by omega
     show World.ownsRow _ _ _ _ _ _ _
     rw [e1, flat_app, flat_app]
     exact own_mono L3.out lw1
    have HLY : Hid ((xs.take k ++ [(⟨z0, z1, z2, z3, z4, z5⟩ : I6)] ++ xs.drop k).length = n + 1) := by
     show _ = _
     have := HL.out
     simp only [List.length_append, List.length_take, List.length_drop, List.length_cons, List.length_nil]
     omega
    generalize xs.take k ++ [(⟨z0, z1, z2, z3, z4, z5⟩ : I6)] ++ xs.drop k = ys at *
    obtain ⟨a9, c9, rfl⟩ := own_slice L4.out
    clear L3 HR
    go_wp2_with fail
    go_ret
    exact ⟨⟨ys, _, _, _, rfl, HLY.out, by omega, by omega, L4.out⟩, _, by omega, HD.out⟩
  ·have z : (y4 == 0) = false := by simp; omega
   go_wp2_with fail
   go_ret
   exact ⟨⟨xs, _, _, _, rfl, HL.out, by omega, by omega, HR.out⟩, _, by omega, HD.out⟩
end Go.Proofs.Ytkaekiodjjhjkaa
