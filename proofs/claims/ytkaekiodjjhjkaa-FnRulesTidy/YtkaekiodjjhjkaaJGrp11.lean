/- Rows that a call owns: small lemmas. -/
import Derived.Test.YtkaekiodjjhjkaaJGrp10
import Derived.Test.YtkaekiodjjhjkaaJGrp0
import Derived.RangeFuncBox
import Derived.Test.YtkaekiodjjhjkaaJLDec
import Derived.Test.YtkaekiodjjhjkaaJGrp3
import Derived.Test.YtkaekiodjjhjkaaJGrp1
set_option maxRecDepth 100000
set_option maxHeartbeats 8000000
set_option linter.unusedSimpArgs false
set_option linter.unusedVariables false
namespace Go.Proofs.Ytkaekiodjjhjkaa
open Go.RowKit
theorem info9 : (Try.prog.info? 9).map (fun i => (i.zero, i.size, i.bytes)) = some (some (.string ⟨#[]⟩), 1, 16) := by kernel_rfl
theorem own_mono {w : World} {base base' e size : Nat} {v : Value} {n : Nat} {cs : List Value} (h : w.ownsRow base e size v n cs) (hb : base' ≤ base) : w.ownsRow base' e size v n cs := by
 refine ⟨h.1, h.2.imp id ?_⟩
 rintro ⟨g, cap, cur, h1, h2, h3⟩
 exact ⟨g, cap, cur, h1, by omega, h3⟩
theorem one_newE (W : World) (B : Nat) (t : TypeId) (x : Value) (hB : B = W.heap.size) : ∀ j u, [x][j]? = some u → (W.alloc (.cells #[x] t)).cell? ((⟨B, 0, none⟩ : Addr).add j) = some u := by
 subst hB
 intro j u hj
 have hl : j < 1 := (List.getElem?_eq_some_iff.1 hj).1
 obtain rfl : j = 0 := by omega
 simp at hj
 subst hj
 rw [Addr.add_lit, Nat.zero_add]
 exact (Boxed.new W t x).cell
theorem own_slice {W : World} {n₀ e s n : Nat} {v : Value} {xs : List Value} (h : W.ownsRow n₀ e s v n xs) : ∃ a cap, v = .slice a n cap := by
 rcases h.2 with ⟨rfl, rfl⟩ | ⟨g, cap, cur, rfl, _⟩
 ·exact ⟨none, 0, rfl⟩
 ·exact ⟨_, cap, rfl⟩
theorem made0 (w : World) (base B : Nat) (e : TypeId) (hB : B = w.heap.size) (hb : base ≤ w.heap.size) : (w.alloc (.cells #[] e)).ownsRow base e 1 (.slice (some ⟨B, 0, none⟩) 0 0) 0 [] := by
 subst hB
 exact World.ownsRow_made w #[] 0 hb (by unfold maxLen; omega) rfl
end Go.Proofs.Ytkaekiodjjhjkaa
namespace Go.Proofs.Ytkaekiodjjhjkaa
open Go.RowKit
def AnI (e : Ending) : Prop := ∃ v : Int, e = .returned (.int .i64 v)
def An2 (e : Ending) : Prop := ∃ a b : Int, e = .returned (.tuple #[.int .i64 a, .int .i64 b])
def AnR (n : Int) (e : Ending) : Prop := ∃ v : Int, -1 ≤ v ∧ v < n ∧ e = .returned (.int .i64 v)
def SL (w : World) (L : Nat) (l : List ByteArray) : Prop := L < w.heap.size ∧ ∀ i, i < l.length → w.cell? ⟨L, i, none⟩ = some (.string (l.getD i ⟨#[]⟩))
theorem SL.below {w w' : World} {L : Nat} {l : List ByteArray} (h : SL w L l) (hb : Below w.heap.size w w') : SL w' L l := ⟨Nat.lt_of_lt_of_le h.1 hb.size, fun i hi => (hb.cell (p := ⟨L, i, none⟩) h.1).trans (h.2 i hi)⟩
theorem SL.new (w : World) (l : List ByteArray) (t : TypeId) : SL (w.alloc (.cells (l.map Value.string).toArray t (0, 0))) w.heap.size l := by
 refine ⟨by simp, fun i hi => ?_⟩
 have hb : (w.alloc (.cells (l.map Value.string).toArray t (0, 0))).heap[w.heap.size]? = some (.cells (l.map Value.string).toArray t (0, 0)) := by
  show (w.heap.push _)[w.heap.size]? = _
  simp
 simp only [World.cell?, hb]
 simp [hi]
theorem num_w (s : ByteArray) (w : World) (hs : s.size ≤ 1000) : Calls Try.prog 104 #[.string s] w fun e w' => AnI e ∧ Below w.heap.size w w' := by
 go_enter Try.func104, Try.ntmps104
 go_wp2_with fail
 go_loopw [3, 4] (fun nn i wr => ∃ (v : Int) (k : Nat), nn = .int .i64 v ∧ k ≤ s.size ∧ i = .int .i64 k ∧ Below w.heap.size w wr) (fun _ i _ => s.size - (intOf i).toNat)
 case atStart => exact ⟨0, 0, rfl, Nat.zero_le _, rfl, Below.refl _ _⟩
 case round =>
  obtain ⟨v, k, rfl, hk, rfl, hbw⟩ := hrel
  by_cases hlt : k < s.size
  ·have hlt' : (k : Int) < (s.size : Int) := by omega
   have hk0 : (0 : Int) ≤ (k : Int) := by omega
   go_wp2_with fail
   all_goals first
    | (go_ret; exact ⟨⟨_, rfl⟩, hbw⟩)
    | (go_roundw
       case rel => exact ⟨_, k + 1, rfl, by omega, by go_num, hbw⟩
       case measure => simp [intOf]; omega)
  ·obtain rfl : k = s.size := by omega
   go_wp2_with fail
   all_goals (go_ret; exact ⟨⟨_, rfl⟩, hbw⟩)
theorem find_w (l : List ByteArray) (L n : Nat) (hn : l.length = n) (hn2 : n ≤ 1000) (s : ByteArray) (w : World) (h : SL w L l) : Calls Try.prog 90 #[.slice (some ⟨L, 0, none⟩) n n, .string s] w fun e w' => AnR n e ∧ Below w.heap.size w w' := by
 have H := hid h
 have HN := hid hn
 clear h hn
 go_enter Try.func90, Try.ntmps90
 go_wp2_with fail
 go_loopw [5] (fun i wr => ∃ k : Nat, k ≤ n ∧ i = .int .i64 k ∧ Below w.heap.size w wr) (fun i _ => n - (intOf i).toNat)
 case atStart => exact ⟨0, Nat.zero_le _, rfl, Below.refl _ _⟩
 case round =>
  obtain ⟨k, hk, rfl, hbw⟩ := hrel
  by_cases hlt : k < n
  ·have hlt' : (k : Int) < (n : Int) := by omega
   have hk0 : (0 : Int) ≤ (k : Int) := by omega
   have hc := (H.out.below hbw).2 k (by have := HN.out; omega)
   generalize l.getD k ⟨#[]⟩ = x at *
   go_wp2_with fail
   all_goals first
    | (go_ret; exact ⟨⟨_, by omega, by omega, rfl⟩, hbw⟩)
    | (go_roundw
       case rel => exact ⟨k + 1, by omega, by go_num, hbw⟩
       case measure => simp [intOf]; omega)
  ·obtain rfl : k = n := by omega
   go_wp2_with fail
   go_ret
   exact ⟨⟨-1, by omega, by omega, rfl⟩, hbw⟩
theorem readReg_w (s : ByteArray) (w : World) (hs : s.size ≤ 1000) : Calls Try.prog 95 #[.string s] w fun e w' => An2 e ∧ Below w.heap.size w w' := by
 go_enter Try.func95, Try.ntmps95
 go_wp2_with fail
 all_goals (
  refine (num_w _ _ (by first | exact hs | (simp; omega))).mono ?_
  rintro e w1 ⟨⟨v, rfl⟩, b1⟩
  go_wp2_with fail
  all_goals (go_ret2; exact ⟨⟨_, _, rfl⟩, b1⟩))
theorem signed_w (s : ByteArray) (w : World) (hs : s.size ≤ 1000) : Calls Try.prog 96 #[.string s] w fun e w' => AnI e ∧ Below w.heap.size w w' := by
 go_enter Try.func96, Try.ntmps96
 go_wp2_with fail
 all_goals (
  refine (num_w _ _ (by first | exact hs | (simp; omega))).mono ?_
  rintro e w1 ⟨⟨v, rfl⟩, b1⟩
  go_wp2_with fail
  all_goals (go_ret; exact ⟨⟨_, rfl⟩, b1⟩))
theorem cut_w (s : ByteArray) (b : Int) (w : World) (hs : s.size ≤ 1000) :
 Calls Try.prog 81 #[.string s, .int .u8 b, .int .i64 5] w fun e w' => (∃ (ws : List ByteArray) (a : Option Addr) (c : Nat), e = .returned (.slice a ws.length c) ∧ 1 ≤ ws.length ∧ ws.length ≤ 6 ∧ (∀ x ∈ ws, x.size ≤ 1000) ∧ w'.ownsRow w.heap.size 9 1 (.slice a ws.length c) ws.length (ws.map .string)) ∧ Below w.heap.size w w' := by
 obtain ⟨j0, hj, hy0, hy1, hy2⟩ := info_parts info9
 have c0 : Below w.heap.size w (w.alloc (.cells #[] 9)) := (Below.refl _ _).alloc (Nat.le_refl _) _
 have o0 : (w.alloc (.cells #[] 9)).ownsRow w.heap.size 9 1 (.slice (some ⟨w.heap.size, 0, none⟩) 0 0) 0 [] := made0 w _ _ 9 rfl (Nat.le_refl _)
 have HC0 := hid c0
 have HO0 := hid o0
 clear c0 o0
 go_enter Try.func81, Try.ntmps81
 go_wp2_with fail
 go_loopw [7, 8, 9] (fun out fr i wr => ∃ (ws : List ByteArray) (f k : Nat), fr = .int .i64 f ∧ i = .int .i64 k ∧ f ≤ k ∧ k ≤ s.size ∧ ws.length ≤ 5 ∧ (∀ x ∈ ws, x.size ≤ 1000) ∧ wr.ownsRow w.heap.size 9 1 out ws.length (ws.map .string) ∧ Below w.heap.size w wr) (fun _ _ i _ => s.size - (intOf i).toNat)
 case atStart => exact ⟨[], 0, 0, rfl, rfl, Nat.le_refl _, Nat.zero_le _, by simp, by simp, HO0.out, HC0.out⟩
 case round =>
  obtain ⟨ws, f, k, rfl, rfl, hf, hk, hw5, hall, hown, hbw⟩ := hrel
  have hsz := hbw.size
  obtain ⟨a0, cap0, rfl⟩ := own_slice hown
  have HO := hid hown
  have HA := hid hall
  have hf0 : (0 : Int) ≤ (f : Int) := by omega
  have hk0 : (0 : Int) ≤ (k : Int) := by omega
  have hfk : (f : Int) ≤ (k : Int) := by omega
  have hks : (k : Int) ≤ (s.size : Int) := by omega
  have hfs : (f : Int) ≤ (s.size : Int) := by omega
  clear hown hall
  have fin : ∀ (x : ByteArray) (w1 : World) (v' : Value), x.size ≤ 1000 → w1.ownsRow w.heap.size 9 1 v' (ws.length + 1) (ws.map Value.string ++ [.string x]) → w1.ownsRow w.heap.size 9 1 v' (ws ++ [x]).length ((ws ++ [x]).map .string) := by
   intro x w1 v' _ h
   simpa using h
  have HF := hid fin
  clear fin
  by_cases hgo : k < s.size ∧ ws.length < 5
  ·obtain ⟨hlt, hl5⟩ := hgo
   have hlt' : (k : Int) < (s.size : Int) := by omega
   have hl5' : (ws.length : Int) < 5 := by omega
   go_wp2_with (first | (at_builtin; go_must (refine wpList_append_own _ rfl _ _ 84 rfl w.heap.size 9 j0 (.string ⟨#[]⟩) 1 16 Try.underlying84 hj hy0 hy1 hy2 rfl (by decide) _ _ _ rfl (World.ownsRow.alloc HO.out _) ⟨wr.heap.size, 0, none⟩ 1 1 [.string (s.extract f k)] rfl (by simp) (one_newE _ _ _ _ rfl) (by simp [Value.oneCell']) (by unfold maxLen; omega) (by omega) (by simp; omega) ?_)))
   ·intro v' w3 hown3 hgrow _
    have hb3 : Below w.heap.size w w3 := (hbw.alloc (by omega) _).grown hgrow (by simp; omega) (own_base HO.out)
    have hx : (s.extract f k).size ≤ 1000 := by simp; omega
    have H3 := hid (HF.out _ _ _ hx hown3)
    have HX := hid hx
    clear hown3 hgrow hx
    go_wp2_with fail
    go_roundw
    case rel => exact ⟨ws ++ [s.extract f k], k + 1, k + 1, by go_num, by go_num, by omega, by omega, by simp; omega, fun y hy => by rcases List.mem_append.1 hy with h | h; exact HA.out y h; simp at h; rw [h]; exact HX.out, H3.out, hb3⟩
    case measure => simp [intOf]; omega
   ·go_roundw
    case rel => exact ⟨ws, f, k + 1, rfl, by go_num, by omega, by omega, by omega, HA.out, HO.out, hbw⟩
    case measure => simp [intOf]; omega
  ·have hgo' : ((k : Int) < (s.size : Int)) = False ∨ ((ws.length : Int) < 5) = False := by
    by_cases h1 : k < s.size
    ·right; simp; omega
    ·left; simp; omega
   rcases hgo' with h1 | h1
   all_goals (
    have hno : ¬ _ := of_eq_false h1
    clear h1
    go_wp2_with (first | (at_builtin; go_must (refine wpList_append_own _ rfl _ _ 84 rfl w.heap.size 9 j0 (.string ⟨#[]⟩) 1 16 Try.underlying84 hj hy0 hy1 hy2 rfl (by decide) _ _ _ rfl (World.ownsRow.alloc HO.out _) ⟨wr.heap.size, 0, none⟩ 1 1 [.string (s.extract f s.size)] rfl (by simp) (one_newE _ _ _ _ rfl) (by simp [Value.oneCell']) (by unfold maxLen; omega) (by omega) (by simp; omega) ?_)))
    all_goals (
     intro v' w3 hown3 hgrow _
     have hb3 : Below w.heap.size w w3 := (hbw.alloc (by omega) _).grown hgrow (by simp; omega) (own_base HO.out)
     have hx : (s.extract f s.size).size ≤ 1000 := by simp; omega
     obtain ⟨WS, hWS⟩ : ∃ l, l = ws ++ [s.extract f s.size] := ⟨_, rfl⟩
     have H3 : Hid (w3.ownsRow w.heap.size 9 1 v' WS.length (WS.map .string)) := by rw [hWS]; exact HF.out _ _ _ hx hown3
     have HL : Hid (WS.length = ws.length + 1) := by rw [hWS]; show (ws ++ [_]).length = _; simp
     have HX : Hid (∀ y ∈ WS, y.size ≤ 1000) := by
      rw [hWS]
      intro y hy
      rcases List.mem_append.1 hy with h | h
      ·exact HA.out y h
      ·simp at h; rw [h]; exact hx
     obtain ⟨a5, c5, rfl⟩ := own_slice H3.out
     clear hown3 hgrow hx hWS
     go_wp2_with fail
     go_ret
     exact ⟨⟨WS, a5, c5, rfl, by have := HL.out; omega, by have := HL.out; omega, HX.out, H3.out⟩, hb3⟩))
end Go.Proofs.Ytkaekiodjjhjkaa
namespace Go.Proofs.Ytkaekiodjjhjkaa
open Go.RowKit
def AnS (k : Nat) (e : Ending) : Prop := ∃ s : ByteArray, s.size ≤ k ∧ e = .returned (.string s)
theorem dec_neg (m : Nat) (h1 : 1 ≤ m) (h2 : m ≤ 1000) (w : World) : Calls Try.prog 92 #[.int .i64 (-(m : Int))] w fun e w' => AnS 20 e ∧ Below w.heap.size w w' := by
 have hm1 : (1 : Int) ≤ (m : Int) := by omega
 have hm2 : (m : Int) ≤ 1000 := by omega
 have hds := decS_size 18 m (by omega)
 go_enter Try.func92, Try.ntmps92
 go_wp2_with fail
 refine (dec_n m m (Nat.le_refl _) (by omega) _).mono ?_
 rintro e w1 ⟨rfl, b1⟩
 generalize decS m = x at *
 go_wp2_with fail
 go_ret
 exact ⟨⟨_, by rw [ByteArray.size_append]; show 1 + x.size ≤ 20; omega, rfl⟩, b1⟩
theorem dec_w (n : Int) (h1 : -1000 ≤ n) (h2 : n ≤ 4294967295) (w : World) : Calls Try.prog 92 #[.int .i64 n] w fun e w' => AnS 20 e ∧ Below w.heap.size w w' := by
 by_cases h : 0 ≤ n
 ·obtain ⟨m, rfl⟩ : ∃ m : Nat, n = m := ⟨n.toNat, by omega⟩
  refine (dec_n m m (Nat.le_refl _) (by omega) w).mono ?_
  rintro e w1 ⟨rfl, b1⟩
  exact ⟨⟨_, by have := decS_size 18 m (by omega); omega, rfl⟩, b1⟩
 ·obtain ⟨m, rfl⟩ : ∃ m : Nat, n = -(m : Int) := ⟨(-n).toNat, by omega⟩
  exact dec_neg m (by omega) (by omega) w
theorem reg_w (s i : Int) (hs0 : -1 ≤ s) (hs1 : s ≤ 10) (hi0 : 0 ≤ i) (hi1 : i ≤ 4294967295) (w : World) : Calls Try.prog 99 #[.int .i64 s, .int .i64 i] w fun e w' => AnS 21 e ∧ Below w.heap.size w w' := by
 go_enter Try.func99, Try.ntmps99
 go_wp2_with fail
 ·refine (dec_w s (by omega) (by omega) _).mono ?_
  rintro e w1 ⟨⟨x, hx, rfl⟩, b1⟩
  go_wp2_with fail
  go_ret
  exact ⟨⟨_, by rw [ByteArray.size_append]; show 1 + x.size ≤ 21; omega, rfl⟩, b1⟩
 ·refine (dec_w i (by omega) (by omega) _).mono ?_
  rintro e w1 ⟨⟨x, hx, rfl⟩, b1⟩
  go_wp2_with fail
  go_ret
  exact ⟨⟨x, by omega, rfl⟩, b1⟩
end Go.Proofs.Ytkaekiodjjhjkaa
namespace Go.Proofs.Ytkaekiodjjhjkaa
open Go.RowKit
def Box6 (W : World) (B : Nat) (o d s f i z : Int) : Prop := W.heap[B]? = some (.cells #[.int .i64 o, .int .i64 d, .int .i64 s, .int .i64 f, .int .i64 i, .int .i64 z] 86 (0, 0))
section
variable {W W' : World} {B : Nat} {o d s f i z : Int}
theorem Box6.lt (h : Box6 W B o d s f i z) : B < W.heap.size := (Array.getElem?_eq_some_iff.1 h).1
theorem Box6.cells (h : Box6 W B o d s f i z) : W.cell? ⟨B, 0, none⟩ = some (.int .i64 o) ∧ W.cell? ⟨B, 1, none⟩ = some (.int .i64 d) ∧ W.cell? ⟨B, 2, none⟩ = some (.int .i64 s) ∧ W.cell? ⟨B, 3, none⟩ = some (.int .i64 f) ∧ W.cell? ⟨B, 4, none⟩ = some (.int .i64 i) ∧ W.cell? ⟨B, 5, none⟩ = some (.int .i64 z) := by simp [World.cell?, show W.heap[B]? = _ from h]
theorem Box6.bel (h : Box6 W B o d s f i z) (hb : Below W.heap.size W W') : Box6 W' B o d s f i z := (hb.block B (Box6.lt h)).trans h
end
def wqL : List ByteArray := [⟨#[]⟩, ⟨#[109, 111, 118]⟩, ⟨#[97, 100, 100]⟩, ⟨#[115, 117, 98]⟩, ⟨#[109, 117, 108]⟩, ⟨#[97, 110, 100]⟩, ⟨#[111, 114]⟩, ⟨#[120, 111, 114]⟩, ⟨#[115, 104, 108]⟩, ⟨#[115, 104, 114]⟩, ⟨#[100, 105, 118]⟩, ⟨#[109, 111, 100]⟩, ⟨#[115, 97, 109, 101]⟩, ⟨#[111, 116, 104, 101, 114]⟩, ⟨#[108, 101, 115, 115]⟩, ⟨#[109, 111, 114, 101]⟩, ⟨#[103, 111]⟩, ⟨#[108, 111, 97, 100]⟩, ⟨#[115, 116, 111, 114, 101]⟩, ⟨#[99, 97, 108, 108]⟩, ⟨#[101, 120, 105, 116]⟩]
def wqS (k : Nat) : ByteArray := wqL.getD k ⟨#[]⟩
def wqA : Array Value := #[.string ⟨#[]⟩, .string ⟨#[109, 111, 118]⟩, .string ⟨#[97, 100, 100]⟩, .string ⟨#[115, 117, 98]⟩, .string ⟨#[109, 117, 108]⟩, .string ⟨#[97, 110, 100]⟩, .string ⟨#[111, 114]⟩, .string ⟨#[120, 111, 114]⟩, .string ⟨#[115, 104, 108]⟩, .string ⟨#[115, 104, 114]⟩, .string ⟨#[100, 105, 118]⟩, .string ⟨#[109, 111, 100]⟩, .string ⟨#[115, 97, 109, 101]⟩, .string ⟨#[111, 116, 104, 101, 114]⟩, .string ⟨#[108, 101, 115, 115]⟩, .string ⟨#[109, 111, 114, 101]⟩, .string ⟨#[103, 111]⟩, .string ⟨#[108, 111, 97, 100]⟩, .string ⟨#[115, 116, 111, 114, 101]⟩, .string ⟨#[99, 97, 108, 108]⟩, .string ⟨#[101, 120, 105, 116]⟩]
theorem g_wq (k : Nat) (hk : k < 21) : wqA[0 + k * 1]? = some (.string (wqS k)) := by
 rcases (by omega : k = 0 ∨ k = 1 ∨ k = 2 ∨ k = 3 ∨ k = 4 ∨ k = 5 ∨ k = 6 ∨ k = 7 ∨ k = 8 ∨ k = 9 ∨ k = 10 ∨ k = 11 ∨ k = 12 ∨ k = 13 ∨ k = 14 ∨ k = 15 ∨ k = 16 ∨ k = 17 ∨ k = 18 ∨ k = 19 ∨ k = 20) with rfl | rfl | rfl | rfl | rfl | rfl | rfl | rfl | rfl | rfl | rfl | rfl | rfl | rfl | rfl | rfl | rfl | rfl | rfl | rfl | rfl <;> rfl
theorem wq_le (k : Nat) (hk : k < 21) : (wqS k).size ≤ 10 := by
 rcases (by omega : k = 0 ∨ k = 1 ∨ k = 2 ∨ k = 3 ∨ k = 4 ∨ k = 5 ∨ k = 6 ∨ k = 7 ∨ k = 8 ∨ k = 9 ∨ k = 10 ∨ k = 11 ∨ k = 12 ∨ k = 13 ∨ k = 14 ∨ k = 15 ∨ k = 16 ∨ k = 17 ∨ k = 18 ∨ k = 19 ∨ k = 20) with rfl | rfl | rfl | rfl | rfl | rfl | rfl | rfl | rfl | rfl | rfl | rfl | rfl | rfl | rfl | rfl | rfl | rfl | rfl | rfl | rfl <;> decide
def cqL : List ByteArray := [⟨#[]⟩, ⟨#[108, 111, 111, 107]⟩, ⟨#[112, 117, 116]⟩, ⟨#[102, 105, 110, 100]⟩, ⟨#[100, 114, 111, 112]⟩, ⟨#[114, 97, 110, 100]⟩, ⟨#[115, 101, 110, 100]⟩]
def cqS (k : Nat) : ByteArray := cqL.getD k ⟨#[]⟩
def cqA : Array Value := #[.string ⟨#[]⟩, .string ⟨#[108, 111, 111, 107]⟩, .string ⟨#[112, 117, 116]⟩, .string ⟨#[102, 105, 110, 100]⟩, .string ⟨#[100, 114, 111, 112]⟩, .string ⟨#[114, 97, 110, 100]⟩, .string ⟨#[115, 101, 110, 100]⟩]
theorem g_cq (k : Nat) (hk : k < 7) : cqA[0 + k * 1]? = some (.string (cqS k)) := by
 rcases (by omega : k = 0 ∨ k = 1 ∨ k = 2 ∨ k = 3 ∨ k = 4 ∨ k = 5 ∨ k = 6) with rfl | rfl | rfl | rfl | rfl | rfl | rfl <;> rfl
theorem cq_le (k : Nat) (hk : k < 7) : (cqS k).size ≤ 10 := by
 rcases (by omega : k = 0 ∨ k = 1 ∨ k = 2 ∨ k = 3 ∨ k = 4 ∨ k = 5 ∨ k = 6) with rfl | rfl | rfl | rfl | rfl | rfl | rfl <;> decide
theorem AnS.q {k : Nat} {w w' : World} {e : Ending} (h : AnS k e ∧ Below w.heap.size w w') : AnyR w (fun x : ByteArray => .string x) (fun x => x.size ≤ k) e w' := by
 obtain ⟨⟨s, h1, h2⟩, hb⟩ := h
 exact ⟨⟨s, h2, h1⟩, hb⟩
theorem dec_q (n : Int) (h1 : -1000 ≤ n) (h2 : n ≤ 4294967295) (w : World) : Calls Try.prog 92 #[.int .i64 n] w fun e w' => AnyR w (fun x : ByteArray => .string x) (fun x => x.size ≤ 20) e w' := (dec_w n h1 h2 w).mono fun _ _ h => AnS.q h
theorem reg_q (s i : Int) (hs0 : -1 ≤ s) (hs1 : s ≤ 10) (hi0 : 0 ≤ i) (hi1 : i ≤ 4294967295) (w : World) : Calls Try.prog 99 #[.int .i64 s, .int .i64 i] w fun e w' => AnyR w (fun x : ByteArray => .string x) (fun x => x.size ≤ 21) e w' := (reg_w s i hs0 hs1 hi0 hi1 w).mono fun _ _ h => AnS.q h
theorem c_wqs  (w : World)  :
 Calls Try.prog 91 #[] w fun e w' => NewRow w (fun (_ : Unit) b => .slice (some ⟨b, 0, none⟩) 21 21) 9 (fun _ => wqA) (fun _ => True) e w' := by
 refine calls_begin Try.func91 rfl 2 rfl (Nat.le_of_ble_eq_true rfl) [] trivial (fun a0 he0 hm0 => ?_)
 refine wp_seqR ?_
 refine wb 1 he0 [(0, .slice none 0 0)] fun a1 he1 => ?_
 refine wl_end (wp_seqR ?_)
 refine kb he1 hm0 1 84 21 9 (#[.string (⟨#[]⟩), .string (⟨#[109, 111, 118]⟩), .string (⟨#[97, 100, 100]⟩), .string (⟨#[115, 117, 98]⟩), .string (⟨#[109, 117, 108]⟩), .string (⟨#[97, 110, 100]⟩), .string (⟨#[111, 114]⟩), .string (⟨#[120, 111, 114]⟩), .string (⟨#[115, 104, 108]⟩), .string (⟨#[115, 104, 114]⟩), .string (⟨#[100, 105, 118]⟩), .string (⟨#[109, 111, 100]⟩), .string (⟨#[115, 97, 109, 101]⟩), .string (⟨#[111, 116, 104, 101, 114]⟩), .string (⟨#[108, 101, 115, 115]⟩), .string (⟨#[109, 111, 114, 101]⟩), .string (⟨#[103, 111]⟩), .string (⟨#[108, 111, 97, 100]⟩), .string (⟨#[115, 116, 111, 114, 101]⟩), .string (⟨#[99, 97, 108, 108]⟩), .string (⟨#[101, 120, 105, 116]⟩)]) (vs := #[(0, .string (⟨#[]⟩)), (1, .string (⟨#[109, 111, 118]⟩)), (2, .string (⟨#[97, 100, 100]⟩)), (3, .string (⟨#[115, 117, 98]⟩)), (4, .string (⟨#[109, 117, 108]⟩)), (5, .string (⟨#[97, 110, 100]⟩)), (6, .string (⟨#[111, 114]⟩)), (7, .string (⟨#[120, 111, 114]⟩)), (8, .string (⟨#[115, 104, 108]⟩)), (9, .string (⟨#[115, 104, 114]⟩)), (10, .string (⟨#[100, 105, 118]⟩)), (11, .string (⟨#[109, 111, 100]⟩)), (12, .string (⟨#[115, 97, 109, 101]⟩)), (13, .string (⟨#[111, 116, 104, 101, 114]⟩)), (14, .string (⟨#[108, 101, 115, 115]⟩)), (15, .string (⟨#[109, 111, 114, 101]⟩)), (16, .string (⟨#[103, 111]⟩)), (17, .string (⟨#[108, 111, 97, 100]⟩)), (18, .string (⟨#[115, 116, 111, 114, 101]⟩)), (19, .string (⟨#[99, 97, 108, 108]⟩)), (20, .string (⟨#[101, 120, 105, 116]⟩))]) (by kernel_rfl) fun a2 w1 b1 he2 hm1 => ?_
 refine wb 1 he2 [(0, zS b1 21 21)] fun a3 he3 => ?_
 refine wl_end (wp_ret ?_)
 exact bodyPost_ret (results_tmp he3 _ Try.results91 (.slice (some ⟨b1, 0, none⟩) (21) (21)) rfl) he3.defers ⟨(), _, rfl, hm1.bx 1 _ _ _ _ rfl, trivial, by have := hm1.own 1 _ rfl rfl; simpa using this, hm1.below⟩
theorem c_cqs  (w : World)  :
 Calls Try.prog 97 #[] w fun e w' => NewRow w (fun (_ : Unit) b => .slice (some ⟨b, 0, none⟩) 7 7) 9 (fun _ => cqA) (fun _ => True) e w' := by
 refine calls_begin Try.func97 rfl 2 rfl (Nat.le_of_ble_eq_true rfl) [] trivial (fun a0 he0 hm0 => ?_)
 refine wp_seqR ?_
 refine wb 1 he0 [(0, .slice none 0 0)] fun a1 he1 => ?_
 refine wl_end (wp_seqR ?_)
 refine kb he1 hm0 1 84 7 9 (#[.string (⟨#[]⟩), .string (⟨#[108, 111, 111, 107]⟩), .string (⟨#[112, 117, 116]⟩), .string (⟨#[102, 105, 110, 100]⟩), .string (⟨#[100, 114, 111, 112]⟩), .string (⟨#[114, 97, 110, 100]⟩), .string (⟨#[115, 101, 110, 100]⟩)]) (vs := #[(0, .string (⟨#[]⟩)), (1, .string (⟨#[108, 111, 111, 107]⟩)), (2, .string (⟨#[112, 117, 116]⟩)), (3, .string (⟨#[102, 105, 110, 100]⟩)), (4, .string (⟨#[100, 114, 111, 112]⟩)), (5, .string (⟨#[114, 97, 110, 100]⟩)), (6, .string (⟨#[115, 101, 110, 100]⟩))]) (by kernel_rfl) fun a2 w1 b1 he2 hm1 => ?_
 refine wb 1 he2 [(0, zS b1 7 7)] fun a3 he3 => ?_
 refine wl_end (wp_ret ?_)
 exact bodyPost_ret (results_tmp he3 _ Try.results97 (.slice (some ⟨b1, 0, none⟩) (7) (7)) rfl) he3.defers ⟨(), _, rfl, hm1.bx 1 _ _ _ _ rfl, trivial, by have := hm1.own 1 _ rfl rfl; simpa using this, hm1.below⟩
theorem line_alu (on : Nat) (d s f i z : Int) (w : World) (hd0 : 0 ≤ d) (hd1 : d ≤ 10) (hs0 : -1 ≤ s) (hs1 : s ≤ 10) (hf0 : -128 ≤ f) (hf1 : f ≤ 127) (hi0 : 0 ≤ i) (hi1 : i ≤ 4294967295) (hon : on < 21) (hA : inB (on : Int) 1 11 = true) :
 Calls Try.prog 83 #[.agg #[.int .i64 (on : Int), .int .i64 d, .int .i64 s, .int .i64 f, .int .i64 i, .int .i64 z]] w fun e w' => AnS 200 e ∧ Below w.heap.size w w' := by
 refine calls_begin Try.func83 rfl 114 rfl (Nat.le_of_ble_eq_true rfl) [(0, .agg (#[zN on, zI d, zI s, zI f, zI i, zI z]))] ⟨rfl, trivial⟩ (fun a0 he0 hm0 => ?_)
 have q_1 : (⟨#[32]⟩ : ByteArray).size = 1 := rfl
 have q_2 : (⟨#[32, 114]⟩ : ByteArray).size = 2 := rfl
 have q_3 : (⟨#[]⟩ : ByteArray).size = 0 := rfl
 have q_4 := wq_le on hon
 refine wp_seqR ?_
 refine kx he0 hm0 1 (.agg (#[zN on, zI d, zI s, zI f, zI i, zI z])) (#[zN on, zI d, zI s, zI f, zI i, zI z]) 86 fun a1 w1 b1 he1 hm1 => ?_
 refine wb 1 he1 [(2, .string (⟨#[]⟩))] fun a2 he2 => ?_
 refine wl_end (wp_seq ?_)
 refine wh_begin (by kernel_rfl) hm1 [(1, ⟨true, b1, 86, #[zN on, zI d, zI s, zI f, zI i, zI z]⟩)] ⟨rfl, trivial⟩ (fun w2 hm2 => ?_)
 refine wtd (fuel := 4) [(1, 0), (2, 3)] he2 hm2 [(7, zN on), (6, zP b1 0)] [b1] vl0 fun a3 he3 => ?_
 refine tn (fuel := 3) 0 rfl he3 hm2 2 (c_wqs _) (fun _ _ => ⟨rfl, trivial⟩) (fun _ _ => ⟨rfl, trivial⟩) fun x2 b2 a4 w3 hx2 he4 hm3 => ?_
 refine tv (fuel := 2) 3 rfl he4 hm3 (.pointer (some ⟨b2, 0 + on * 1, none⟩)) (fun wS hmS => rn_indexA _ _ _ rfl _ _ (.pointer (some ⟨b2, 0 + on * 1, none⟩)) (he4.tmp 5 _ rfl) (he4.tmp 7 _ rfl) (ixS 9 1 (by kernel_rfl) (fun w => by kernel_rfl) (b2) (0) (21) (21) (on) (by omega) _)) fun a5 he5 => ?_
 refine tl (fuel := 1) 4 rfl he5 hm3 2 one9 (0 + on * 1) (.string (wqS on)) (hv := (g_wq on (by omega))) fun a6 he6 => ?_
 refine wtb (fuel := 0) [5] he6 hm3 [(3, .string (wqS on))] fun a7 he7 => ?_
 refine wpAnyH_done (by kernel_rfl) ?_ _
 refine then_normal (wp_seqR ?_)
 refine wr [0, 3] he7 hm3 [(11, zI d), (10, zP b1 1)] [b1] vl0 fun a8 w4 he8 hm4 => ?_
 refine kq he8 hm4 (dec_q d (by omega) (by omega) _) fun d1 a9 w5 hd1 he9 hm5 => ?_
 obtain ⟨z1, hz1, hsz1⟩ := cat2 (⟨#[32, 114]⟩) (d1)
 refine kz he9 hz1 fun a10 he10 => ?_
 refine wb 1 he10 [(4, .string (z1))] fun a11 he11 => ?_
 refine wl_end (wp_seq (wp_block (wp_seqR ?_)))
 refine wr [0, 3] he11 hm5 [(16, zN on), (15, zP b1 0)] [b1] vl0 fun a12 w6 he12 hm6 => ?_
 refine kc he12 hm6 (v := zT) (callsV (congrArg Value.bool (hA)) (callsS (f49 _ _))) fun a13 w7 he13 hm7 => ?_
 refine wb 1 he13 [(14, zT)] fun a14 he14 => ?_
 refine wl_end (wp_condT (he := he14) rfl (wp_seqR ?_))
 refine wb 2 he14 [(19, .string (z1)), (18, .string (wqS on))] fun a15 he15 => ?_
 obtain ⟨z2, hz2, hsz2⟩ := cat2 (wqS on) (z1)
 refine kz he15 hz2 fun a16 he16 => ?_
 obtain ⟨z3, hz3, hsz3⟩ := cat2 (z2) (⟨#[32]⟩)
 refine kz he16 hz3 fun a17 he17 => ?_
 refine wr [0, 3, 0, 3] he17 hm7 [(25, zI i), (24, zP b1 4), (23, zI s), (22, zP b1 2)] [b1, b1] vl0 fun a18 w8 he18 hm8 => ?_
 refine kq he18 hm8 (reg_q s i (by omega) (by omega) (by omega) (by omega) _) fun d2 a19 w9 hd2 he19 hm9 => ?_
 obtain ⟨z4, hz4, hsz4⟩ := cat2 (z3) (d2)
 refine kz he19 hz4 fun a20 he20 => ?_
 refine wb 1 he20 [(2, .string (z4))] fun a21 he21 => ?_
 refine wl_end (wp_ret (ret_in (ret_then ?_)))
 exact bodyPost_ret (results_tmp he21 _ Try.results83 (.string (z4)) rfl) he21.defers ⟨⟨z4, by omega, rfl⟩, hm9.below⟩
theorem line_jump (on : Nat) (d s f i z : Int) (w : World) (hd0 : 0 ≤ d) (hd1 : d ≤ 10) (hs0 : -1 ≤ s) (hs1 : s ≤ 10) (hf0 : -128 ≤ f) (hf1 : f ≤ 127) (hi0 : 0 ≤ i) (hi1 : i ≤ 4294967295) (hon : on < 21) (hA : inB (on : Int) 1 11 = false) (hJ : inB (on : Int) 12 15 = true) :
 Calls Try.prog 83 #[.agg #[.int .i64 (on : Int), .int .i64 d, .int .i64 s, .int .i64 f, .int .i64 i, .int .i64 z]] w fun e w' => AnS 200 e ∧ Below w.heap.size w w' := by
 refine calls_begin Try.func83 rfl 114 rfl (Nat.le_of_ble_eq_true rfl) [(0, .agg (#[zN on, zI d, zI s, zI f, zI i, zI z]))] ⟨rfl, trivial⟩ (fun a0 he0 hm0 => ?_)
 have q_1 : (⟨#[32]⟩ : ByteArray).size = 1 := rfl
 have q_2 : (⟨#[32, 114]⟩ : ByteArray).size = 2 := rfl
 have q_3 : (⟨#[]⟩ : ByteArray).size = 0 := rfl
 have q_4 := wq_le on hon
 refine wp_seqR ?_
 refine kx he0 hm0 1 (.agg (#[zN on, zI d, zI s, zI f, zI i, zI z])) (#[zN on, zI d, zI s, zI f, zI i, zI z]) 86 fun a1 w1 b1 he1 hm1 => ?_
 refine wb 1 he1 [(2, .string (⟨#[]⟩))] fun a2 he2 => ?_
 refine wl_end (wp_seq ?_)
 refine wh_begin (by kernel_rfl) hm1 [(1, ⟨true, b1, 86, #[zN on, zI d, zI s, zI f, zI i, zI z]⟩)] ⟨rfl, trivial⟩ (fun w2 hm2 => ?_)
 refine wtd (fuel := 4) [(1, 0), (2, 3)] he2 hm2 [(7, zN on), (6, zP b1 0)] [b1] vl0 fun a3 he3 => ?_
 refine tn (fuel := 3) 0 rfl he3 hm2 2 (c_wqs _) (fun _ _ => ⟨rfl, trivial⟩) (fun _ _ => ⟨rfl, trivial⟩) fun x2 b2 a4 w3 hx2 he4 hm3 => ?_
 refine tv (fuel := 2) 3 rfl he4 hm3 (.pointer (some ⟨b2, 0 + on * 1, none⟩)) (fun wS hmS => rn_indexA _ _ _ rfl _ _ (.pointer (some ⟨b2, 0 + on * 1, none⟩)) (he4.tmp 5 _ rfl) (he4.tmp 7 _ rfl) (ixS 9 1 (by kernel_rfl) (fun w => by kernel_rfl) (b2) (0) (21) (21) (on) (by omega) _)) fun a5 he5 => ?_
 refine tl (fuel := 1) 4 rfl he5 hm3 2 one9 (0 + on * 1) (.string (wqS on)) (hv := (g_wq on (by omega))) fun a6 he6 => ?_
 refine wtb (fuel := 0) [5] he6 hm3 [(3, .string (wqS on))] fun a7 he7 => ?_
 refine wpAnyH_done (by kernel_rfl) ?_ _
 refine then_normal (wp_seqR ?_)
 refine wr [0, 3] he7 hm3 [(11, zI d), (10, zP b1 1)] [b1] vl0 fun a8 w4 he8 hm4 => ?_
 refine kq he8 hm4 (dec_q d (by omega) (by omega) _) fun d1 a9 w5 hd1 he9 hm5 => ?_
 obtain ⟨z1, hz1, hsz1⟩ := cat2 (⟨#[32, 114]⟩) (d1)
 refine kz he9 hz1 fun a10 he10 => ?_
 refine wb 1 he10 [(4, .string (z1))] fun a11 he11 => ?_
 refine wl_end (wp_seq (wp_block (wp_seqR ?_)))
 refine wr [0, 3] he11 hm5 [(16, zN on), (15, zP b1 0)] [b1] vl0 fun a12 w6 he12 hm6 => ?_
 refine kc he12 hm6 (v := zF) (callsV (congrArg Value.bool (hA)) (callsS (f49 _ _))) fun a13 w7 he13 hm7 => ?_
 refine wb 1 he13 [(14, zF)] fun a14 he14 => ?_
 refine wl_end (wp_condF (he := he14) rfl (wp_seqR ?_))
 refine wr [0, 3] he14 hm7 [(30, zN on), (29, zP b1 0)] [b1] vl0 fun a15 w8 he15 hm8 => ?_
 refine kc he15 hm8 (v := zT) (callsV (congrArg Value.bool (hJ)) (callsS (f48 _ _))) fun a16 w9 he16 hm9 => ?_
 refine wb 1 he16 [(28, zT)] fun a17 he17 => ?_
 refine wl_end (wp_condT (he := he17) rfl (wp_seq ?_))
 refine wh_begin (by kernel_rfl) hm9 [(1, ⟨true, b1, 86, #[zN on, zI d, zI s, zI f, zI i, zI z]⟩), (2, ⟨true, b2, 9, wqA⟩)] ⟨rfl, rfl, trivial⟩ (fun w10 hm10 => ?_)
 refine wtb (fuel := 14) [0, 1] he17 hm10 [(33, .string (z1)), (32, .string (wqS on))] fun a18 he18 => ?_
 obtain ⟨z2, hz2, hsz2⟩ := cat2 (wqS on) (z1)
 refine tz (fuel := 13) 2 rfl he18 hm10 hz2 fun a19 he19 => ?_
 obtain ⟨z3, hz3, hsz3⟩ := cat2 (z2) (⟨#[32]⟩)
 refine tz (fuel := 12) 3 rfl he19 hm10 hz3 fun a20 he20 => ?_
 refine wtd (fuel := 6) [(4, 0), (5, 3), (6, 0), (7, 3), (11, 0), (12, 3)] he20 hm10 [(44, zI f), (43, zP b1 3), (39, zI i), (38, zP b1 4), (37, zI s), (36, zP b1 2)] [b1, b1, b1] vl0 fun a21 he21 => ?_
 refine tq (fuel := 5) 8 rfl he21 hm10 (reg_q s i (by omega) (by omega) (by omega) (by omega) _) fun d2 a22 w11 hd2 he22 hm11 => ?_
 obtain ⟨z4, hz4, hsz4⟩ := cat2 (z3) (d2)
 refine tz (fuel := 4) 9 rfl he22 hm11 hz4 fun a23 he23 => ?_
 obtain ⟨z5, hz5, hsz5⟩ := cat2 (z4) (⟨#[32]⟩)
 refine tz (fuel := 3) 10 rfl he23 hm11 hz5 fun a24 he24 => ?_
 refine tq (fuel := 2) 13 rfl he24 hm11 (dec_q f (by omega) (by omega) _) fun d3 a25 w12 hd3 he25 hm12 => ?_
 obtain ⟨z6, hz6, hsz6⟩ := cat2 (z5) (d3)
 refine tz (fuel := 1) 14 rfl he25 hm12 hz6 fun a26 he26 => ?_
 refine wtb (fuel := 0) [15] he26 hm12 [(2, .string (z6))] fun a27 he27 => ?_
 refine wpAnyH_done (by kernel_rfl) ?_ _
 refine then_normal (wp_ret (ret_in (ret_then ?_)))
 exact bodyPost_ret (results_tmp he27 _ Try.results83 (.string (z6)) rfl) he27.defers ⟨⟨z6, by omega, rfl⟩, hm12.below⟩
theorem line_go (on : Nat) (d s f i z : Int) (w : World) (hd0 : 0 ≤ d) (hd1 : d ≤ 10) (hs0 : -1 ≤ s) (hs1 : s ≤ 10) (hf0 : -128 ≤ f) (hf1 : f ≤ 127) (hi0 : 0 ≤ i) (hi1 : i ≤ 4294967295) (hon : on < 21) (hA : inB (on : Int) 1 11 = false) (hJ : inB (on : Int) 12 15 = false) (h16 : ((on : Int) == 16) = true) :
 Calls Try.prog 83 #[.agg #[.int .i64 (on : Int), .int .i64 d, .int .i64 s, .int .i64 f, .int .i64 i, .int .i64 z]] w fun e w' => AnS 200 e ∧ Below w.heap.size w w' := by
 refine calls_begin Try.func83 rfl 114 rfl (Nat.le_of_ble_eq_true rfl) [(0, .agg (#[zN on, zI d, zI s, zI f, zI i, zI z]))] ⟨rfl, trivial⟩ (fun a0 he0 hm0 => ?_)
 have q_1 : (⟨#[32]⟩ : ByteArray).size = 1 := rfl
 have q_2 : (⟨#[32, 114]⟩ : ByteArray).size = 2 := rfl
 have q_3 : (⟨#[]⟩ : ByteArray).size = 0 := rfl
 have q_4 := wq_le on hon
 refine wp_seqR ?_
 refine kx he0 hm0 1 (.agg (#[zN on, zI d, zI s, zI f, zI i, zI z])) (#[zN on, zI d, zI s, zI f, zI i, zI z]) 86 fun a1 w1 b1 he1 hm1 => ?_
 refine wb 1 he1 [(2, .string (⟨#[]⟩))] fun a2 he2 => ?_
 refine wl_end (wp_seq ?_)
 refine wh_begin (by kernel_rfl) hm1 [(1, ⟨true, b1, 86, #[zN on, zI d, zI s, zI f, zI i, zI z]⟩)] ⟨rfl, trivial⟩ (fun w2 hm2 => ?_)
 refine wtd (fuel := 4) [(1, 0), (2, 3)] he2 hm2 [(7, zN on), (6, zP b1 0)] [b1] vl0 fun a3 he3 => ?_
 refine tn (fuel := 3) 0 rfl he3 hm2 2 (c_wqs _) (fun _ _ => ⟨rfl, trivial⟩) (fun _ _ => ⟨rfl, trivial⟩) fun x2 b2 a4 w3 hx2 he4 hm3 => ?_
 refine tv (fuel := 2) 3 rfl he4 hm3 (.pointer (some ⟨b2, 0 + on * 1, none⟩)) (fun wS hmS => rn_indexA _ _ _ rfl _ _ (.pointer (some ⟨b2, 0 + on * 1, none⟩)) (he4.tmp 5 _ rfl) (he4.tmp 7 _ rfl) (ixS 9 1 (by kernel_rfl) (fun w => by kernel_rfl) (b2) (0) (21) (21) (on) (by omega) _)) fun a5 he5 => ?_
 refine tl (fuel := 1) 4 rfl he5 hm3 2 one9 (0 + on * 1) (.string (wqS on)) (hv := (g_wq on (by omega))) fun a6 he6 => ?_
 refine wtb (fuel := 0) [5] he6 hm3 [(3, .string (wqS on))] fun a7 he7 => ?_
 refine wpAnyH_done (by kernel_rfl) ?_ _
 refine then_normal (wp_seqR ?_)
 refine wr [0, 3] he7 hm3 [(11, zI d), (10, zP b1 1)] [b1] vl0 fun a8 w4 he8 hm4 => ?_
 refine kq he8 hm4 (dec_q d (by omega) (by omega) _) fun d1 a9 w5 hd1 he9 hm5 => ?_
 obtain ⟨z1, hz1, hsz1⟩ := cat2 (⟨#[32, 114]⟩) (d1)
 refine kz he9 hz1 fun a10 he10 => ?_
 refine wb 1 he10 [(4, .string (z1))] fun a11 he11 => ?_
 refine wl_end (wp_seq (wp_block (wp_seqR ?_)))
 refine wr [0, 3] he11 hm5 [(16, zN on), (15, zP b1 0)] [b1] vl0 fun a12 w6 he12 hm6 => ?_
 refine kc he12 hm6 (v := zF) (callsV (congrArg Value.bool (hA)) (callsS (f49 _ _))) fun a13 w7 he13 hm7 => ?_
 refine wb 1 he13 [(14, zF)] fun a14 he14 => ?_
 refine wl_end (wp_condF (he := he14) rfl (wp_seqR ?_))
 refine wr [0, 3] he14 hm7 [(30, zN on), (29, zP b1 0)] [b1] vl0 fun a15 w8 he15 hm8 => ?_
 refine kc he15 hm8 (v := zF) (callsV (congrArg Value.bool (hJ)) (callsS (f48 _ _))) fun a16 w9 he16 hm9 => ?_
 refine wb 1 he16 [(28, zF)] fun a17 he17 => ?_
 refine wl_end (wp_condF (he := he17) rfl (wp_seqR ?_))
 refine wr [0, 3, 1, 0] he17 hm9 [(47, zT), (50, zT), (49, zN on), (48, zP b1 0)] [b1] (vb (h16) vl0) fun a18 w10 he18 hm10 => ?_
 refine wl_end (wp_condT (he := he18) rfl (wp_seqR ?_))
 refine wb 1 he18 [(51, .string (wqS on))] fun a19 he19 => ?_
 obtain ⟨z2, hz2, hsz2⟩ := cat2 (wqS on) (⟨#[32]⟩)
 refine kz he19 hz2 fun a20 he20 => ?_
 refine wr [0, 3] he20 hm10 [(54, zI f), (53, zP b1 3)] [b1] vl0 fun a21 w11 he21 hm11 => ?_
 refine kq he21 hm11 (dec_q f (by omega) (by omega) _) fun d2 a22 w12 hd2 he22 hm12 => ?_
 obtain ⟨z3, hz3, hsz3⟩ := cat2 (z2) (d2)
 refine kz he22 hz3 fun a23 he23 => ?_
 refine wb 1 he23 [(2, .string (z3))] fun a24 he24 => ?_
 refine wl_end (wp_ret (ret_in (ret_then ?_)))
 exact bodyPost_ret (results_tmp he24 _ Try.results83 (.string (z3)) rfl) he24.defers ⟨⟨z3, by omega, rfl⟩, hm12.below⟩
theorem line_load (on : Nat) (d s f i z : Int) (w : World) (hd0 : 0 ≤ d) (hd1 : d ≤ 10) (hs0 : -1 ≤ s) (hs1 : s ≤ 10) (hf0 : -128 ≤ f) (hf1 : f ≤ 127) (hi0 : 0 ≤ i) (hi1 : i ≤ 4294967295) (hon : on < 21) (hA : inB (on : Int) 1 11 = false) (hJ : inB (on : Int) 12 15 = false) (h16 : ((on : Int) == 16) = false) (h17 : ((on : Int) == 17) = true) (hz0 : 0 ≤ z) (hz1 : z ≤ 4) :
 Calls Try.prog 83 #[.agg #[.int .i64 (on : Int), .int .i64 d, .int .i64 s, .int .i64 f, .int .i64 i, .int .i64 z]] w fun e w' => AnS 200 e ∧ Below w.heap.size w w' := by
 refine calls_begin Try.func83 rfl 114 rfl (Nat.le_of_ble_eq_true rfl) [(0, .agg (#[zN on, zI d, zI s, zI f, zI i, zI z]))] ⟨rfl, trivial⟩ (fun a0 he0 hm0 => ?_)
 have q_1 : (⟨#[32]⟩ : ByteArray).size = 1 := rfl
 have q_2 : (⟨#[32, 114]⟩ : ByteArray).size = 2 := rfl
 have q_3 : (⟨#[]⟩ : ByteArray).size = 0 := rfl
 have q_4 := wq_le on hon
 refine wp_seqR ?_
 refine kx he0 hm0 1 (.agg (#[zN on, zI d, zI s, zI f, zI i, zI z])) (#[zN on, zI d, zI s, zI f, zI i, zI z]) 86 fun a1 w1 b1 he1 hm1 => ?_
 refine wb 1 he1 [(2, .string (⟨#[]⟩))] fun a2 he2 => ?_
 refine wl_end (wp_seq ?_)
 refine wh_begin (by kernel_rfl) hm1 [(1, ⟨true, b1, 86, #[zN on, zI d, zI s, zI f, zI i, zI z]⟩)] ⟨rfl, trivial⟩ (fun w2 hm2 => ?_)
 refine wtd (fuel := 4) [(1, 0), (2, 3)] he2 hm2 [(7, zN on), (6, zP b1 0)] [b1] vl0 fun a3 he3 => ?_
 refine tn (fuel := 3) 0 rfl he3 hm2 2 (c_wqs _) (fun _ _ => ⟨rfl, trivial⟩) (fun _ _ => ⟨rfl, trivial⟩) fun x2 b2 a4 w3 hx2 he4 hm3 => ?_
 refine tv (fuel := 2) 3 rfl he4 hm3 (.pointer (some ⟨b2, 0 + on * 1, none⟩)) (fun wS hmS => rn_indexA _ _ _ rfl _ _ (.pointer (some ⟨b2, 0 + on * 1, none⟩)) (he4.tmp 5 _ rfl) (he4.tmp 7 _ rfl) (ixS 9 1 (by kernel_rfl) (fun w => by kernel_rfl) (b2) (0) (21) (21) (on) (by omega) _)) fun a5 he5 => ?_
 refine tl (fuel := 1) 4 rfl he5 hm3 2 one9 (0 + on * 1) (.string (wqS on)) (hv := (g_wq on (by omega))) fun a6 he6 => ?_
 refine wtb (fuel := 0) [5] he6 hm3 [(3, .string (wqS on))] fun a7 he7 => ?_
 refine wpAnyH_done (by kernel_rfl) ?_ _
 refine then_normal (wp_seqR ?_)
 refine wr [0, 3] he7 hm3 [(11, zI d), (10, zP b1 1)] [b1] vl0 fun a8 w4 he8 hm4 => ?_
 refine kq he8 hm4 (dec_q d (by omega) (by omega) _) fun d1 a9 w5 hd1 he9 hm5 => ?_
 obtain ⟨z1, hz1, hsz1⟩ := cat2 (⟨#[32, 114]⟩) (d1)
 refine kz he9 hz1 fun a10 he10 => ?_
 refine wb 1 he10 [(4, .string (z1))] fun a11 he11 => ?_
 refine wl_end (wp_seq (wp_block (wp_seqR ?_)))
 refine wr [0, 3] he11 hm5 [(16, zN on), (15, zP b1 0)] [b1] vl0 fun a12 w6 he12 hm6 => ?_
 refine kc he12 hm6 (v := zF) (callsV (congrArg Value.bool (hA)) (callsS (f49 _ _))) fun a13 w7 he13 hm7 => ?_
 refine wb 1 he13 [(14, zF)] fun a14 he14 => ?_
 refine wl_end (wp_condF (he := he14) rfl (wp_seqR ?_))
 refine wr [0, 3] he14 hm7 [(30, zN on), (29, zP b1 0)] [b1] vl0 fun a15 w8 he15 hm8 => ?_
 refine kc he15 hm8 (v := zF) (callsV (congrArg Value.bool (hJ)) (callsS (f48 _ _))) fun a16 w9 he16 hm9 => ?_
 refine wb 1 he16 [(28, zF)] fun a17 he17 => ?_
 refine wl_end (wp_condF (he := he17) rfl (wp_seqR ?_))
 refine wr [0, 3, 1, 0] he17 hm9 [(47, zF), (50, zF), (49, zN on), (48, zP b1 0)] [b1] (vb (h16) vl0) fun a18 w10 he18 hm10 => ?_
 refine wl_end (wp_condF (he := he18) rfl (wp_seqR ?_))
 refine wr [0, 3, 1, 0] he18 hm10 [(57, zT), (60, zT), (59, zN on), (58, zP b1 0)] [b1] (vb (h17) vl0) fun a19 w11 he19 hm11 => ?_
 refine wl_end (wp_condT (he := he19) rfl (wp_seq ?_))
 refine wh_begin (by kernel_rfl) hm11 [(1, ⟨true, b1, 86, #[zN on, zI d, zI s, zI f, zI i, zI z]⟩), (2, ⟨true, b2, 9, wqA⟩)] ⟨rfl, rfl, trivial⟩ (fun w12 hm12 => ?_)
 refine wtd (fuel := 10) [(0, 0), (1, 0), (2, 3), (5, 0), (8, 0), (9, 3), (13, 0), (14, 3)] he19 hm12 [(75, zI f), (74, zP b1 3), (70, zI s), (69, zP b1 2), (66, .string (z1)), (63, zI z), (62, zP b1 5), (61, .string (wqS on))] [b1, b1, b1] vl0 fun a20 he20 => ?_
 refine tq (fuel := 9) 3 rfl he20 hm12 (dec_q z (by omega) (by omega) _) fun d2 a21 w13 hd2 he21 hm13 => ?_
 obtain ⟨z2, hz2, hsz2⟩ := cat2 (wqS on) (d2)
 refine tz (fuel := 8) 4 rfl he21 hm13 hz2 fun a22 he22 => ?_
 obtain ⟨z3, hz3, hsz3⟩ := cat2 (z2) (z1)
 refine tz (fuel := 7) 6 rfl he22 hm13 hz3 fun a23 he23 => ?_
 obtain ⟨z4, hz4, hsz4⟩ := cat2 (z3) (⟨#[32, 114]⟩)
 refine tz (fuel := 6) 7 rfl he23 hm13 hz4 fun a24 he24 => ?_
 refine tq (fuel := 5) 10 rfl he24 hm13 (dec_q s (by omega) (by omega) _) fun d3 a25 w14 hd3 he25 hm14 => ?_
 obtain ⟨z5, hz5, hsz5⟩ := cat2 (z4) (d3)
 refine tz (fuel := 4) 11 rfl he25 hm14 hz5 fun a26 he26 => ?_
 obtain ⟨z6, hz6, hsz6⟩ := cat2 (z5) (⟨#[32]⟩)
 refine tz (fuel := 3) 12 rfl he26 hm14 hz6 fun a27 he27 => ?_
 refine tq (fuel := 2) 15 rfl he27 hm14 (dec_q f (by omega) (by omega) _) fun d4 a28 w15 hd4 he28 hm15 => ?_
 obtain ⟨z7, hz7, hsz7⟩ := cat2 (z6) (d4)
 refine tz (fuel := 1) 16 rfl he28 hm15 hz7 fun a29 he29 => ?_
 refine wtb (fuel := 0) [17] he29 hm15 [(2, .string (z7))] fun a30 he30 => ?_
 refine wpAnyH_done (by kernel_rfl) ?_ _
 refine then_normal (wp_ret (ret_in (ret_then ?_)))
 exact bodyPost_ret (results_tmp he30 _ Try.results83 (.string (z7)) rfl) he30.defers ⟨⟨z7, by omega, rfl⟩, hm15.below⟩
theorem line_store (on : Nat) (d s f i z : Int) (w : World) (hd0 : 0 ≤ d) (hd1 : d ≤ 10) (hs0 : -1 ≤ s) (hs1 : s ≤ 10) (hf0 : -128 ≤ f) (hf1 : f ≤ 127) (hi0 : 0 ≤ i) (hi1 : i ≤ 4294967295) (hon : on < 21) (hA : inB (on : Int) 1 11 = false) (hJ : inB (on : Int) 12 15 = false) (h16 : ((on : Int) == 16) = false) (h17 : ((on : Int) == 17) = false) (h18 : ((on : Int) == 18) = true) (hz0 : 0 ≤ z) (hz1 : z ≤ 4) :
 Calls Try.prog 83 #[.agg #[.int .i64 (on : Int), .int .i64 d, .int .i64 s, .int .i64 f, .int .i64 i, .int .i64 z]] w fun e w' => AnS 200 e ∧ Below w.heap.size w w' := by
 refine calls_begin Try.func83 rfl 114 rfl (Nat.le_of_ble_eq_true rfl) [(0, .agg (#[zN on, zI d, zI s, zI f, zI i, zI z]))] ⟨rfl, trivial⟩ (fun a0 he0 hm0 => ?_)
 have q_1 : (⟨#[32]⟩ : ByteArray).size = 1 := rfl
 have q_2 : (⟨#[32, 114]⟩ : ByteArray).size = 2 := rfl
 have q_3 : (⟨#[]⟩ : ByteArray).size = 0 := rfl
 have q_4 := wq_le on hon
 refine wp_seqR ?_
 refine kx he0 hm0 1 (.agg (#[zN on, zI d, zI s, zI f, zI i, zI z])) (#[zN on, zI d, zI s, zI f, zI i, zI z]) 86 fun a1 w1 b1 he1 hm1 => ?_
 refine wb 1 he1 [(2, .string (⟨#[]⟩))] fun a2 he2 => ?_
 refine wl_end (wp_seq ?_)
 refine wh_begin (by kernel_rfl) hm1 [(1, ⟨true, b1, 86, #[zN on, zI d, zI s, zI f, zI i, zI z]⟩)] ⟨rfl, trivial⟩ (fun w2 hm2 => ?_)
 refine wtd (fuel := 4) [(1, 0), (2, 3)] he2 hm2 [(7, zN on), (6, zP b1 0)] [b1] vl0 fun a3 he3 => ?_
 refine tn (fuel := 3) 0 rfl he3 hm2 2 (c_wqs _) (fun _ _ => ⟨rfl, trivial⟩) (fun _ _ => ⟨rfl, trivial⟩) fun x2 b2 a4 w3 hx2 he4 hm3 => ?_
 refine tv (fuel := 2) 3 rfl he4 hm3 (.pointer (some ⟨b2, 0 + on * 1, none⟩)) (fun wS hmS => rn_indexA _ _ _ rfl _ _ (.pointer (some ⟨b2, 0 + on * 1, none⟩)) (he4.tmp 5 _ rfl) (he4.tmp 7 _ rfl) (ixS 9 1 (by kernel_rfl) (fun w => by kernel_rfl) (b2) (0) (21) (21) (on) (by omega) _)) fun a5 he5 => ?_
 refine tl (fuel := 1) 4 rfl he5 hm3 2 one9 (0 + on * 1) (.string (wqS on)) (hv := (g_wq on (by omega))) fun a6 he6 => ?_
 refine wtb (fuel := 0) [5] he6 hm3 [(3, .string (wqS on))] fun a7 he7 => ?_
 refine wpAnyH_done (by kernel_rfl) ?_ _
 refine then_normal (wp_seqR ?_)
 refine wr [0, 3] he7 hm3 [(11, zI d), (10, zP b1 1)] [b1] vl0 fun a8 w4 he8 hm4 => ?_
 refine kq he8 hm4 (dec_q d (by omega) (by omega) _) fun d1 a9 w5 hd1 he9 hm5 => ?_
 obtain ⟨z1, hz1, hsz1⟩ := cat2 (⟨#[32, 114]⟩) (d1)
 refine kz he9 hz1 fun a10 he10 => ?_
 refine wb 1 he10 [(4, .string (z1))] fun a11 he11 => ?_
 refine wl_end (wp_seq (wp_block (wp_seqR ?_)))
 refine wr [0, 3] he11 hm5 [(16, zN on), (15, zP b1 0)] [b1] vl0 fun a12 w6 he12 hm6 => ?_
 refine kc he12 hm6 (v := zF) (callsV (congrArg Value.bool (hA)) (callsS (f49 _ _))) fun a13 w7 he13 hm7 => ?_
 refine wb 1 he13 [(14, zF)] fun a14 he14 => ?_
 refine wl_end (wp_condF (he := he14) rfl (wp_seqR ?_))
 refine wr [0, 3] he14 hm7 [(30, zN on), (29, zP b1 0)] [b1] vl0 fun a15 w8 he15 hm8 => ?_
 refine kc he15 hm8 (v := zF) (callsV (congrArg Value.bool (hJ)) (callsS (f48 _ _))) fun a16 w9 he16 hm9 => ?_
 refine wb 1 he16 [(28, zF)] fun a17 he17 => ?_
 refine wl_end (wp_condF (he := he17) rfl (wp_seqR ?_))
 refine wr [0, 3, 1, 0] he17 hm9 [(47, zF), (50, zF), (49, zN on), (48, zP b1 0)] [b1] (vb (h16) vl0) fun a18 w10 he18 hm10 => ?_
 refine wl_end (wp_condF (he := he18) rfl (wp_seqR ?_))
 refine wr [0, 3, 1, 0] he18 hm10 [(57, zF), (60, zF), (59, zN on), (58, zP b1 0)] [b1] (vb (h17) vl0) fun a19 w11 he19 hm11 => ?_
 refine wl_end (wp_condF (he := he19) rfl (wp_seqR ?_))
 refine wr [0, 3, 1, 0] he19 hm11 [(78, zT), (81, zT), (80, zN on), (79, zP b1 0)] [b1] (vb (h18) vl0) fun a20 w12 he20 hm12 => ?_
 refine wl_end (wp_condT (he := he20) rfl (wp_seq ?_))
 refine wh_begin (by kernel_rfl) hm12 [(1, ⟨true, b1, 86, #[zN on, zI d, zI s, zI f, zI i, zI z]⟩), (2, ⟨true, b2, 9, wqA⟩)] ⟨rfl, rfl, trivial⟩ (fun w13 hm13 => ?_)
 refine wtd (fuel := 10) [(0, 0), (1, 0), (2, 3), (5, 0), (8, 0), (9, 3), (13, 0), (14, 3), (15, 0), (16, 3)] he20 hm13 [(98, zI i), (97, zP b1 4), (96, zI s), (95, zP b1 2), (91, zI f), (90, zP b1 3), (87, .string (z1)), (84, zI z), (83, zP b1 5), (82, .string (wqS on))] [b1, b1, b1, b1] vl0 fun a21 he21 => ?_
 refine tq (fuel := 9) 3 rfl he21 hm13 (dec_q z (by omega) (by omega) _) fun d2 a22 w14 hd2 he22 hm14 => ?_
 obtain ⟨z2, hz2, hsz2⟩ := cat2 (wqS on) (d2)
 refine tz (fuel := 8) 4 rfl he22 hm14 hz2 fun a23 he23 => ?_
 obtain ⟨z3, hz3, hsz3⟩ := cat2 (z2) (z1)
 refine tz (fuel := 7) 6 rfl he23 hm14 hz3 fun a24 he24 => ?_
 obtain ⟨z4, hz4, hsz4⟩ := cat2 (z3) (⟨#[32]⟩)
 refine tz (fuel := 6) 7 rfl he24 hm14 hz4 fun a25 he25 => ?_
 refine tq (fuel := 5) 10 rfl he25 hm14 (dec_q f (by omega) (by omega) _) fun d3 a26 w15 hd3 he26 hm15 => ?_
 obtain ⟨z5, hz5, hsz5⟩ := cat2 (z4) (d3)
 refine tz (fuel := 4) 11 rfl he26 hm15 hz5 fun a27 he27 => ?_
 obtain ⟨z6, hz6, hsz6⟩ := cat2 (z5) (⟨#[32]⟩)
 refine tz (fuel := 3) 12 rfl he27 hm15 hz6 fun a28 he28 => ?_
 refine tq (fuel := 2) 17 rfl he28 hm15 (reg_q s i (by omega) (by omega) (by omega) (by omega) _) fun d4 a29 w16 hd4 he29 hm16 => ?_
 obtain ⟨z7, hz7, hsz7⟩ := cat2 (z6) (d4)
 refine tz (fuel := 1) 18 rfl he29 hm16 hz7 fun a30 he30 => ?_
 refine wtb (fuel := 0) [19] he30 hm16 [(2, .string (z7))] fun a31 he31 => ?_
 refine wpAnyH_done (by kernel_rfl) ?_ _
 refine then_normal (wp_ret (ret_in (ret_then ?_)))
 exact bodyPost_ret (results_tmp he31 _ Try.results83 (.string (z7)) rfl) he31.defers ⟨⟨z7, by omega, rfl⟩, hm16.below⟩
theorem line_call (on : Nat) (d s f i z : Int) (w : World) (hd0 : 0 ≤ d) (hd1 : d ≤ 10) (hs0 : -1 ≤ s) (hs1 : s ≤ 10) (hf0 : -128 ≤ f) (hf1 : f ≤ 127) (hi0 : 0 ≤ i) (hi1 : i ≤ 4294967295) (hon : on < 21) (hA : inB (on : Int) 1 11 = false) (hJ : inB (on : Int) 12 15 = false) (h16 : ((on : Int) == 16) = false) (h17 : ((on : Int) == 17) = false) (h18 : ((on : Int) == 18) = false) (h19 : ((on : Int) == 19) = true) (im : Nat) (him : i = im) (him7 : im < 7) :
 Calls Try.prog 83 #[.agg #[.int .i64 (on : Int), .int .i64 d, .int .i64 s, .int .i64 f, .int .i64 i, .int .i64 z]] w fun e w' => AnS 200 e ∧ Below w.heap.size w w' := by
 subst him
 refine calls_begin Try.func83 rfl 114 rfl (Nat.le_of_ble_eq_true rfl) [(0, .agg (#[zN on, zI d, zI s, zI f, zN im, zI z]))] ⟨rfl, trivial⟩ (fun a0 he0 hm0 => ?_)
 have q_1 : (⟨#[32]⟩ : ByteArray).size = 1 := rfl
 have q_2 : (⟨#[32, 114]⟩ : ByteArray).size = 2 := rfl
 have q_3 : (⟨#[]⟩ : ByteArray).size = 0 := rfl
 have q_4 := wq_le on hon
 have q_5 := cq_le im (by omega)
 refine wp_seqR ?_
 refine kx he0 hm0 1 (.agg (#[zN on, zI d, zI s, zI f, zN im, zI z])) (#[zN on, zI d, zI s, zI f, zN im, zI z]) 86 fun a1 w1 b1 he1 hm1 => ?_
 refine wb 1 he1 [(2, .string (⟨#[]⟩))] fun a2 he2 => ?_
 refine wl_end (wp_seq ?_)
 refine wh_begin (by kernel_rfl) hm1 [(1, ⟨true, b1, 86, #[zN on, zI d, zI s, zI f, zN im, zI z]⟩)] ⟨rfl, trivial⟩ (fun w2 hm2 => ?_)
 refine wtd (fuel := 4) [(1, 0), (2, 3)] he2 hm2 [(7, zN on), (6, zP b1 0)] [b1] vl0 fun a3 he3 => ?_
 refine tn (fuel := 3) 0 rfl he3 hm2 2 (c_wqs _) (fun _ _ => ⟨rfl, trivial⟩) (fun _ _ => ⟨rfl, trivial⟩) fun x2 b2 a4 w3 hx2 he4 hm3 => ?_
 refine tv (fuel := 2) 3 rfl he4 hm3 (.pointer (some ⟨b2, 0 + on * 1, none⟩)) (fun wS hmS => rn_indexA _ _ _ rfl _ _ (.pointer (some ⟨b2, 0 + on * 1, none⟩)) (he4.tmp 5 _ rfl) (he4.tmp 7 _ rfl) (ixS 9 1 (by kernel_rfl) (fun w => by kernel_rfl) (b2) (0) (21) (21) (on) (by omega) _)) fun a5 he5 => ?_
 refine tl (fuel := 1) 4 rfl he5 hm3 2 one9 (0 + on * 1) (.string (wqS on)) (hv := (g_wq on (by omega))) fun a6 he6 => ?_
 refine wtb (fuel := 0) [5] he6 hm3 [(3, .string (wqS on))] fun a7 he7 => ?_
 refine wpAnyH_done (by kernel_rfl) ?_ _
 refine then_normal (wp_seqR ?_)
 refine wr [0, 3] he7 hm3 [(11, zI d), (10, zP b1 1)] [b1] vl0 fun a8 w4 he8 hm4 => ?_
 refine kq he8 hm4 (dec_q d (by omega) (by omega) _) fun d1 a9 w5 hd1 he9 hm5 => ?_
 obtain ⟨z1, hz1, hsz1⟩ := cat2 (⟨#[32, 114]⟩) (d1)
 refine kz he9 hz1 fun a10 he10 => ?_
 refine wb 1 he10 [(4, .string (z1))] fun a11 he11 => ?_
 refine wl_end (wp_seq (wp_block (wp_seqR ?_)))
 refine wr [0, 3] he11 hm5 [(16, zN on), (15, zP b1 0)] [b1] vl0 fun a12 w6 he12 hm6 => ?_
 refine kc he12 hm6 (v := zF) (callsV (congrArg Value.bool (hA)) (callsS (f49 _ _))) fun a13 w7 he13 hm7 => ?_
 refine wb 1 he13 [(14, zF)] fun a14 he14 => ?_
 refine wl_end (wp_condF (he := he14) rfl (wp_seqR ?_))
 refine wr [0, 3] he14 hm7 [(30, zN on), (29, zP b1 0)] [b1] vl0 fun a15 w8 he15 hm8 => ?_
 refine kc he15 hm8 (v := zF) (callsV (congrArg Value.bool (hJ)) (callsS (f48 _ _))) fun a16 w9 he16 hm9 => ?_
 refine wb 1 he16 [(28, zF)] fun a17 he17 => ?_
 refine wl_end (wp_condF (he := he17) rfl (wp_seqR ?_))
 refine wr [0, 3, 1, 0] he17 hm9 [(47, zF), (50, zF), (49, zN on), (48, zP b1 0)] [b1] (vb (h16) vl0) fun a18 w10 he18 hm10 => ?_
 refine wl_end (wp_condF (he := he18) rfl (wp_seqR ?_))
 refine wr [0, 3, 1, 0] he18 hm10 [(57, zF), (60, zF), (59, zN on), (58, zP b1 0)] [b1] (vb (h17) vl0) fun a19 w11 he19 hm11 => ?_
 refine wl_end (wp_condF (he := he19) rfl (wp_seqR ?_))
 refine wr [0, 3, 1, 0] he19 hm11 [(78, zF), (81, zF), (80, zN on), (79, zP b1 0)] [b1] (vb (h18) vl0) fun a20 w12 he20 hm12 => ?_
 refine wl_end (wp_condF (he := he20) rfl (wp_seqR ?_))
 refine wr [0, 3, 1, 0] he20 hm12 [(101, zT), (104, zT), (103, zN on), (102, zP b1 0)] [b1] (vb (h19) vl0) fun a21 w13 he21 hm13 => ?_
 refine wl_end (wp_condT (he := he21) rfl (wp_seq ?_))
 refine wh_begin (by kernel_rfl) hm13 [(1, ⟨true, b1, 86, #[zN on, zI d, zI s, zI f, zN im, zI z]⟩), (2, ⟨true, b2, 9, wqA⟩)] ⟨rfl, rfl, trivial⟩ (fun w14 hm14 => ?_)
 refine wtb (fuel := 8) [0] he21 hm14 [(105, .string (wqS on))] fun a22 he22 => ?_
 obtain ⟨z2, hz2, hsz2⟩ := cat2 (wqS on) (⟨#[32]⟩)
 refine tz (fuel := 7) 1 rfl he22 hm14 hz2 fun a23 he23 => ?_
 refine wtd (fuel := 5) [(3, 0), (4, 3)] he23 hm14 [(109, zN im), (108, zP b1 4)] [b1] vl0 fun a24 he24 => ?_
 refine tn (fuel := 4) 2 rfl he24 hm14 3 (c_cqs _) (fun _ _ => ⟨rfl, rfl, trivial⟩) (fun _ _ => ⟨rfl, rfl, trivial⟩) fun x3 b3 a25 w15 hx3 he25 hm15 => ?_
 refine tv (fuel := 3) 5 rfl he25 hm15 (.pointer (some ⟨b3, 0 + im * 1, none⟩)) (fun wS hmS => rn_indexA _ _ _ rfl _ _ (.pointer (some ⟨b3, 0 + im * 1, none⟩)) (he25.tmp 107 _ rfl) (he25.tmp 109 _ rfl) (ixS 9 1 (by kernel_rfl) (fun w => by kernel_rfl) (b3) (0) (7) (7) (im) (by omega) _)) fun a26 he26 => ?_
 refine tl (fuel := 2) 6 rfl he26 hm15 3 one9 (0 + im * 1) (.string (cqS im)) (hv := (g_cq im (by omega))) fun a27 he27 => ?_
 obtain ⟨z3, hz3, hsz3⟩ := cat2 (z2) (cqS im)
 refine tz (fuel := 1) 7 rfl he27 hm15 hz3 fun a28 he28 => ?_
 refine wtb (fuel := 0) [8] he28 hm15 [(2, .string (z3))] fun a29 he29 => ?_
 refine wpAnyH_done (by kernel_rfl) ?_ _
 refine then_normal (wp_ret (ret_in (ret_then ?_)))
 exact bodyPost_ret (results_tmp he29 _ Try.results83 (.string (z3)) rfl) he29.defers ⟨⟨z3, by omega, rfl⟩, hm15.below⟩
theorem line_exit (on : Nat) (d s f i z : Int) (w : World) (hd0 : 0 ≤ d) (hd1 : d ≤ 10) (hs0 : -1 ≤ s) (hs1 : s ≤ 10) (hf0 : -128 ≤ f) (hf1 : f ≤ 127) (hi0 : 0 ≤ i) (hi1 : i ≤ 4294967295) (hon : on < 21) (hA : inB (on : Int) 1 11 = false) (hJ : inB (on : Int) 12 15 = false) (h16 : ((on : Int) == 16) = false) (h17 : ((on : Int) == 17) = false) (h18 : ((on : Int) == 18) = false) (h19 : ((on : Int) == 19) = false) :
 Calls Try.prog 83 #[.agg #[.int .i64 (on : Int), .int .i64 d, .int .i64 s, .int .i64 f, .int .i64 i, .int .i64 z]] w fun e w' => AnS 200 e ∧ Below w.heap.size w w' := by
 refine calls_begin Try.func83 rfl 114 rfl (Nat.le_of_ble_eq_true rfl) [(0, .agg (#[zN on, zI d, zI s, zI f, zI i, zI z]))] ⟨rfl, trivial⟩ (fun a0 he0 hm0 => ?_)
 have q_1 : (⟨#[32]⟩ : ByteArray).size = 1 := rfl
 have q_2 : (⟨#[32, 114]⟩ : ByteArray).size = 2 := rfl
 have q_3 : (⟨#[]⟩ : ByteArray).size = 0 := rfl
 have q_4 := wq_le on hon
 refine wp_seqR ?_
 refine kx he0 hm0 1 (.agg (#[zN on, zI d, zI s, zI f, zI i, zI z])) (#[zN on, zI d, zI s, zI f, zI i, zI z]) 86 fun a1 w1 b1 he1 hm1 => ?_
 refine wb 1 he1 [(2, .string (⟨#[]⟩))] fun a2 he2 => ?_
 refine wl_end (wp_seq ?_)
 refine wh_begin (by kernel_rfl) hm1 [(1, ⟨true, b1, 86, #[zN on, zI d, zI s, zI f, zI i, zI z]⟩)] ⟨rfl, trivial⟩ (fun w2 hm2 => ?_)
 refine wtd (fuel := 4) [(1, 0), (2, 3)] he2 hm2 [(7, zN on), (6, zP b1 0)] [b1] vl0 fun a3 he3 => ?_
 refine tn (fuel := 3) 0 rfl he3 hm2 2 (c_wqs _) (fun _ _ => ⟨rfl, trivial⟩) (fun _ _ => ⟨rfl, trivial⟩) fun x2 b2 a4 w3 hx2 he4 hm3 => ?_
 refine tv (fuel := 2) 3 rfl he4 hm3 (.pointer (some ⟨b2, 0 + on * 1, none⟩)) (fun wS hmS => rn_indexA _ _ _ rfl _ _ (.pointer (some ⟨b2, 0 + on * 1, none⟩)) (he4.tmp 5 _ rfl) (he4.tmp 7 _ rfl) (ixS 9 1 (by kernel_rfl) (fun w => by kernel_rfl) (b2) (0) (21) (21) (on) (by omega) _)) fun a5 he5 => ?_
 refine tl (fuel := 1) 4 rfl he5 hm3 2 one9 (0 + on * 1) (.string (wqS on)) (hv := (g_wq on (by omega))) fun a6 he6 => ?_
 refine wtb (fuel := 0) [5] he6 hm3 [(3, .string (wqS on))] fun a7 he7 => ?_
 refine wpAnyH_done (by kernel_rfl) ?_ _
 refine then_normal (wp_seqR ?_)
 refine wr [0, 3] he7 hm3 [(11, zI d), (10, zP b1 1)] [b1] vl0 fun a8 w4 he8 hm4 => ?_
 refine kq he8 hm4 (dec_q d (by omega) (by omega) _) fun d1 a9 w5 hd1 he9 hm5 => ?_
 obtain ⟨z1, hz1, hsz1⟩ := cat2 (⟨#[32, 114]⟩) (d1)
 refine kz he9 hz1 fun a10 he10 => ?_
 refine wb 1 he10 [(4, .string (z1))] fun a11 he11 => ?_
 refine wl_end (wp_seq (wp_block (wp_seqR ?_)))
 refine wr [0, 3] he11 hm5 [(16, zN on), (15, zP b1 0)] [b1] vl0 fun a12 w6 he12 hm6 => ?_
 refine kc he12 hm6 (v := zF) (callsV (congrArg Value.bool (hA)) (callsS (f49 _ _))) fun a13 w7 he13 hm7 => ?_
 refine wb 1 he13 [(14, zF)] fun a14 he14 => ?_
 refine wl_end (wp_condF (he := he14) rfl (wp_seqR ?_))
 refine wr [0, 3] he14 hm7 [(30, zN on), (29, zP b1 0)] [b1] vl0 fun a15 w8 he15 hm8 => ?_
 refine kc he15 hm8 (v := zF) (callsV (congrArg Value.bool (hJ)) (callsS (f48 _ _))) fun a16 w9 he16 hm9 => ?_
 refine wb 1 he16 [(28, zF)] fun a17 he17 => ?_
 refine wl_end (wp_condF (he := he17) rfl (wp_seqR ?_))
 refine wr [0, 3, 1, 0] he17 hm9 [(47, zF), (50, zF), (49, zN on), (48, zP b1 0)] [b1] (vb (h16) vl0) fun a18 w10 he18 hm10 => ?_
 refine wl_end (wp_condF (he := he18) rfl (wp_seqR ?_))
 refine wr [0, 3, 1, 0] he18 hm10 [(57, zF), (60, zF), (59, zN on), (58, zP b1 0)] [b1] (vb (h17) vl0) fun a19 w11 he19 hm11 => ?_
 refine wl_end (wp_condF (he := he19) rfl (wp_seqR ?_))
 refine wr [0, 3, 1, 0] he19 hm11 [(78, zF), (81, zF), (80, zN on), (79, zP b1 0)] [b1] (vb (h18) vl0) fun a20 w12 he20 hm12 => ?_
 refine wl_end (wp_condF (he := he20) rfl (wp_seqR ?_))
 refine wr [0, 3, 1, 0] he20 hm12 [(101, zF), (104, zF), (103, zN on), (102, zP b1 0)] [b1] (vb (h19) vl0) fun a21 w13 he21 hm13 => ?_
 refine wl_end (wp_condF (he := he21) rfl (wp_skip (in_normal (then_normal (wp_seqR ?_)))))
 refine wb 2 he21 [(2, .string (wqS on)), (113, .string (wqS on))] fun a22 he22 => ?_
 refine wl_end (wp_ret ?_)
 exact bodyPost_ret (results_tmp he22 _ Try.results83 (.string (wqS on)) rfl) he22.defers ⟨⟨wqS on, by omega, rfl⟩, hm13.below⟩
theorem line_w (o d s f i z : Int) (w : World) (h : sokB o d s f i z = true) :
 Calls Try.prog 83 #[.agg #[.int .i64 o, .int .i64 d, .int .i64 s, .int .i64 f, .int .i64 i, .int .i64 z]] w fun e w' => AnS 200 e ∧ Below w.heap.size w w' := by
 simp only [sokB, Bool.and_eq_true] at h
 obtain ⟨⟨⟨⟨hd, hs⟩, hf⟩, hi⟩, hb⟩ := h
 have h1 : 0 ≤ d ∧ d ≤ 10 := by simpa [inB] using hd
 have h2 : -1 ≤ s ∧ s ≤ 10 := by simpa [inB] using hs
 have h3 : -128 ≤ f ∧ f ≤ 127 := by simpa [inB] using hf
 have h4 : 0 ≤ i ∧ i ≤ 4294967295 := by simpa [inB] using hi
 unfold bareB at hb
 cases hA : inB o 1 11
 ·cases hJ : inB o 12 15
  ·rw [hA, hJ] at hb
   simp only [Bool.false_eq_true, if_false] at hb
   by_cases e16 : o = 16
   ·subst e16
    exact line_go 16 d s f i z w h1.1 h1.2 h2.1 h2.2 h3.1 h3.2 h4.1 h4.2 (by omega) hA hJ rfl
   by_cases e17 : o = 17
   ·subst e17
    have hz : 0 ≤ z ∧ z ≤ 4 := by simp [isB] at hb; omega
    exact line_load 17 d s f i z w h1.1 h1.2 h2.1 h2.2 h3.1 h3.2 h4.1 h4.2 (by omega) hA hJ rfl rfl hz.1 hz.2
   by_cases e18 : o = 18
   ·subst e18
    have hz : 0 ≤ z ∧ z ≤ 4 := by simp [isB] at hb; omega
    exact line_store 18 d s f i z w h1.1 h1.2 h2.1 h2.2 h3.1 h3.2 h4.1 h4.2 (by omega) hA hJ rfl rfl rfl hz.1 hz.2
   by_cases e19 : o = 19
   ·subst e19
    have hz : 1 ≤ i ∧ i ≤ 6 := by simp [isB, inB] at hb; omega
    exact line_call 19 d s f i z w h1.1 h1.2 h2.1 h2.2 h3.1 h3.2 h4.1 h4.2 (by omega) hA hJ rfl rfl rfl rfl i.toNat (by omega) (by omega)
   have e20 : o = 20 := by simp [isB, e16, e17, e18, e19] at hb; exact hb.1
   subst e20
   exact line_exit 20 d s f i z w h1.1 h1.2 h2.1 h2.2 h3.1 h3.2 h4.1 h4.2 (by omega) hA hJ rfl rfl rfl rfl
  ·have ho : 12 ≤ o ∧ o ≤ 15 := by simpa [inB] using hJ
   obtain ⟨n, rfl⟩ : ∃ n : Nat, o = n := ⟨o.toNat, by omega⟩
   exact line_jump n d s f i z w h1.1 h1.2 h2.1 h2.2 h3.1 h3.2 h4.1 h4.2 (by omega) hA hJ
 ·have ho : 1 ≤ o ∧ o ≤ 11 := by simpa [inB] using hA
  obtain ⟨n, rfl⟩ : ∃ n : Nat, o = n := ⟨o.toNat, by omega⟩
  exact line_alu n d s f i z w h1.1 h1.2 h2.1 h2.2 h3.1 h3.2 h4.1 h4.2 (by omega) hA
end Go.Proofs.Ytkaekiodjjhjkaa
namespace Go.Proofs.Ytkaekiodjjhjkaa
open Go.RowKit
section
variable {W W' : World} {B : Nat} {o d s f i z : Int}
theorem Box6.set0 (v : Int) (h : Box6 W B o d s f i z) : Box6 (W.setCell ⟨B, 0, none⟩ (.int .i64 v)) B v d s f i z := by
 obtain ⟨hlt, hk⟩ := Array.getElem?_eq_some_iff.1 h
 show (W.heap.modify B _)[B]? = _
 rw [Array.getElem?_eq_getElem (by rw [Array.size_modify]; exact hlt), Array.getElem_modify_self, hk]
 rfl
theorem Box6.set1 (v : Int) (h : Box6 W B o d s f i z) : Box6 (W.setCell ⟨B, 1, none⟩ (.int .i64 v)) B o v s f i z := by
 obtain ⟨hlt, hk⟩ := Array.getElem?_eq_some_iff.1 h
 show (W.heap.modify B _)[B]? = _
 rw [Array.getElem?_eq_getElem (by rw [Array.size_modify]; exact hlt), Array.getElem_modify_self, hk]
 rfl
theorem Box6.set2 (v : Int) (h : Box6 W B o d s f i z) : Box6 (W.setCell ⟨B, 2, none⟩ (.int .i64 v)) B o d v f i z := by
 obtain ⟨hlt, hk⟩ := Array.getElem?_eq_some_iff.1 h
 show (W.heap.modify B _)[B]? = _
 rw [Array.getElem?_eq_getElem (by rw [Array.size_modify]; exact hlt), Array.getElem_modify_self, hk]
 rfl
theorem Box6.set3 (v : Int) (h : Box6 W B o d s f i z) : Box6 (W.setCell ⟨B, 3, none⟩ (.int .i64 v)) B o d s v i z := by
 obtain ⟨hlt, hk⟩ := Array.getElem?_eq_some_iff.1 h
 show (W.heap.modify B _)[B]? = _
 rw [Array.getElem?_eq_getElem (by rw [Array.size_modify]; exact hlt), Array.getElem_modify_self, hk]
 rfl
theorem Box6.set4 (v : Int) (h : Box6 W B o d s f i z) : Box6 (W.setCell ⟨B, 4, none⟩ (.int .i64 v)) B o d s f v z := by
 obtain ⟨hlt, hk⟩ := Array.getElem?_eq_some_iff.1 h
 show (W.heap.modify B _)[B]? = _
 rw [Array.getElem?_eq_getElem (by rw [Array.size_modify]; exact hlt), Array.getElem_modify_self, hk]
 rfl
theorem Box6.set5 (v : Int) (h : Box6 W B o d s f i z) : Box6 (W.setCell ⟨B, 5, none⟩ (.int .i64 v)) B o d s f i v := by
 obtain ⟨hlt, hk⟩ := Array.getElem?_eq_some_iff.1 h
 show (W.heap.modify B _)[B]? = _
 rw [Array.getElem?_eq_getElem (by rw [Array.size_modify]; exact hlt), Array.getElem_modify_self, hk]
 rfl
theorem Box6.frozen (h : Box6 W B o d s f i z) (j : Nat) : W.frozen? ⟨B, j, none⟩ = false := by simp [World.frozen?, show W.heap[B]? = _ from h]
theorem Box6.setO (h : Box6 W B o d s f i z) (C j : Nat) (v : Value) (hne : B ≠ C) : Box6 (W.setCell ⟨C, j, none⟩ v) B o d s f i z := (Below.heap_setCell W ⟨C, j, none⟩ v B hne).trans h
def st6b (W : World) (B : Nat) (o d s f i z : Int) : World := (((((W.setCell ⟨B, 0, none⟩ (.int .i64 o)).setCell ⟨B, 1, none⟩ (.int .i64 d)).setCell ⟨B, 2, none⟩ (.int .i64 s)).setCell ⟨B, 3, none⟩ (.int .i64 f)).setCell ⟨B, 4, none⟩ (.int .i64 i)).setCell ⟨B, 5, none⟩ (.int .i64 z)
theorem Box6.st (h : Box6 W B o d s f i z) (o' d' s' f' i' z' : Int) : Box6 (st6b W B o' d' s' f' i' z') B o' d' s' f' i' z' := Box6.set5 _ (Box6.set4 _ (Box6.set3 _ (Box6.set2 _ (Box6.set1 _ (Box6.set0 _ h)))))
theorem st6b_below {W₀ : World} {n : Nat} (h : Below n W₀ W) (hB : n ≤ B) (o' d' s' f' i' z' : Int) : Below n W₀ (st6b W B o' d' s' f' i' z') := (((((h.setCell hB _).setCell hB _).setCell hB _).setCell hB _).setCell hB _).setCell hB _
theorem SL.set {w : World} {g C j : Nat} {l : List ByteArray} (h : SL w g l) (v : Value) (hne : g ≠ C) : SL (w.setCell ⟨C, j, none⟩ v) g l := by
 refine ⟨by show g < (w.heap.modify C _).size; rw [Array.size_modify]; exact h.1, fun i hi => ?_⟩
 rw [World.cell?_of_block (w := w) (w' := w.setCell ⟨C, j, none⟩ v) (Below.heap_setCell w ⟨C, j, none⟩ v g hne)]
 exact h.2 i hi
theorem SL.st {w : World} {g C : Nat} {l : List ByteArray} (h : SL w g l) (hne : g ≠ C) (o' d' s' f' i' z' : Int) : SL (st6b w C o' d' s' f' i' z') g l := (((((h.set _ hne).set _ hne).set _ hne).set _ hne).set _ hne).set _ hne
end
def AnX (e : Ending) : Prop := ∃ o d s f i z : Int, e = .returned (.agg #[.int .i64 o, .int .i64 d, .int .i64 s, .int .i64 f, .int .i64 i, .int .i64 z])
end Go.Proofs.Ytkaekiodjjhjkaa
namespace Go.Proofs.Ytkaekiodjjhjkaa
open Go.RowKit
section
variable {w0 w w' : World} {B : Nat} {a : Option Addr} {len cap p q : Nat}
theorem Box6.k3 {X : Nat} {o d s f i z : Int} (hx : Box6 w X o d s f i z) (hX : X ≠ B) (k3 : K3 w0 w w' B a len cap q) : Box6 w' X o d s f i z := (k3.kp.2 X (Box6.lt hx) hX).trans hx
theorem K3.st6b (h : K3 w0 w w' B a len cap p) (X : Nat) (hk : w.heap.size ≤ X) (o d s f i z : Int) : K3 w0 w (st6b w' X o d s f i z) B a len cap p :=
 (((((h.set _ _ hk).set _ _ hk).set _ _ hk).set _ _ hk).set _ _ hk).set _ _ hk
end
theorem alu_k {w0 w : World} {B : Nat} {a : Option Addr} {len cap p : Nat} (h : RS w0 w B a len cap p) (hp : p ≤ 900000) :
 Calls Try.prog 54 #[.pointer (some ⟨B, 0, none⟩)] w fun e w' => AnX e ∧ ∃ q, q ≤ p + 6 ∧ K3 w0 w w' B a len cap q := by
 have H := hid h
 have lB := h.lt
 clear h
 go_enter Try.func54, Try.ntmps54
 go_wp2_with fail
 have HQ : Hid (Box6 (w.alloc (.cells #[.int .i64 0, .int .i64 0, .int .i64 0, .int .i64 0, .int .i64 0, .int .i64 0] 86)) w.heap.size 0 0 0 0 0 0) := World.alloc_heap_new w _
 have HD := hid ((K3.start H.out).alloc (.cells #[.int .i64 0, .int .i64 0, .int .i64 0, .int .i64 0, .int .i64 0, .int .i64 0] 86))
 clear H
 generalize w.alloc (.cells #[.int .i64 0, .int .i64 0, .int .i64 0, .int .i64 0, .int .i64 0, .int .i64 0] 86) = w1 at *
 refine (pick_k HD.out.rs (by omega) 11 (by omega) (by omega)).mono ?_
 rintro e w2 ⟨m, rfl, hm, k2⟩
 replace HQ := hid (HQ.out.k3 (by omega) k2)
 replace HD := hid (HD.out.draw k2)
 clear k2
 have hx0 : (0 : Int) ≤ (m : Int) := by omega
 generalize (m : Int) = x at *
 go_wp2_with fail
 refine (one_k HD.out.rs (by omega) [0, 6, 7, 8] 3 (by decide) (by decide)).mono ?_
 rintro e w3 ⟨v, hv, rfl, k3⟩
 replace HQ := hid (HQ.out.k3 (by omega) k3)
 replace HD := hid (HD.out.draw k3)
 clear k3 hv
 go_wp2_with fail
 refine (imm_k HD.out.rs (by omega)).mono ?_
 rintro e w4 ⟨v4, rfl, hv4, k4⟩
 replace HQ := hid (HQ.out.k3 (by omega) k4)
 replace HD := hid (HD.out.draw k4)
 clear k4
 go_wp2_with fail
 have hx : Box6 (w4.alloc (.cells #[.int .i64 (1 + x), .int .i64 v, .int .i64 (-1), .int .i64 0, .int .i64 (v4 : Int), .int .i64 0] 86)) w4.heap.size (1 + x) v (-1) 0 (v4 : Int) 0 := World.alloc_heap_new w4 _
 have ba : Below w4.heap.size w4 (w4.alloc (.cells #[.int .i64 (1 + x), .int .i64 v, .int .i64 (-1), .int .i64 0, .int .i64 (v4 : Int), .int .i64 0] 86)) := (Below.refl _ _).alloc (Nat.le_refl _) _
 have lQX := Box6.lt HQ.out
 replace HQ := hid (HQ.out.bel ba)
 replace HD := hid (HD.out.below ba)
 have HX := hid hx
 clear hx ba
 generalize w4.alloc (.cells #[.int .i64 (1 + x), .int .i64 v, .int .i64 (-1), .int .i64 0, .int .i64 (v4 : Int), .int .i64 0] 86) = w5 at *
 generalize w4.heap.size = X at *
 refine (pick_k HD.out.rs (by omega) 2 (by omega) (by omega)).mono ?_
 rintro e w6 ⟨m2, rfl, hm2, k6⟩
 replace HQ := hid (HQ.out.k3 (by omega) k6)
 replace HX := hid (HX.out.k3 (by omega) k6)
 replace HD := hid (HD.out.draw k6)
 clear k6
 have hy0 : (0 : Int) ≤ (m2 : Int) := by omega
 generalize (m2 : Int) = y at *
 have hyc : y = 0 ∨ y = 1 := by omega
 rcases hyc with rfl | rfl
 ·go_wp2_with fail
  refine (one_k HD.out.rs (by omega) [0, 6, 7, 8] 3 (by decide) (by decide)).mono ?_
  rintro e w7 ⟨v7, hv7, rfl, k7⟩
  replace HQ := hid (HQ.out.k3 (by omega) k7)
  replace HX := hid (HX.out.k3 (by omega) k7)
  replace HD := hid (HD.out.draw k7)
  clear k7 hv7
  have K5 := hid (K3.st6b (K3.set (K3.set HD.out ⟨X, 2, none⟩ (.int .i64 v7) (by show w.heap.size ≤ X; omega)) ⟨X, 4, none⟩ (.int .i64 0) (by show w.heap.size ≤ X; omega)) w.heap.size (Nat.le_refl _) (1 + x) (v) (v7) (0) (0) (0))
  have P5 := hid (Box6.cells (Box6.st (Box6.setO (Box6.setO HQ.out X 2 (.int .i64 v7) (by omega)) X 4 (.int .i64 0) (by omega)) (1 + x) (v) (v7) (0) (0) (0)))
  obtain ⟨x0, x1, x2, x3, x4, x5⟩ := Box6.cells HX.out
  have xl := Box6.lt HX.out
  have xf := Box6.frozen HX.out
  obtain ⟨q0, q1, q2, q3, q4, q5⟩ := Box6.cells HQ.out
  have ql := Box6.lt HQ.out
  have qf := Box6.frozen HQ.out
  go_wp2_with fail
  obtain ⟨r0, r1, r2, r3, r4, r5⟩ := P5.out
  unfold st6b at r0 r1 r2 r3 r4 r5
  refine bodyPost_ret (v := .agg #[.int .i64 (1 + x), .int .i64 (v), .int .i64 (v7), .int .i64 (0), .int .i64 (0), .int .i64 (0)]) (by simp [results, Try.results54, go_sem, r0, r1, r2, r3, r4, r5]) rfl ?_
  exact ⟨⟨_, _, _, _, _, _, rfl⟩, _, by omega, K5.out⟩
 ·skip
  have K5 := hid (K3.st6b HD.out w.heap.size (Nat.le_refl _) (1 + x) (v) (-1) (0) ((v4 : Int)) (0))
  have P5 := hid (Box6.cells (Box6.st HQ.out (1 + x) (v) (-1) (0) ((v4 : Int)) (0)))
  obtain ⟨x0, x1, x2, x3, x4, x5⟩ := Box6.cells HX.out
  have xl := Box6.lt HX.out
  have xf := Box6.frozen HX.out
  obtain ⟨q0, q1, q2, q3, q4, q5⟩ := Box6.cells HQ.out
  have ql := Box6.lt HQ.out
  have qf := Box6.frozen HQ.out
  go_wp2_with fail
  obtain ⟨r0, r1, r2, r3, r4, r5⟩ := P5.out
  unfold st6b at r0 r1 r2 r3 r4 r5
  refine bodyPost_ret (v := .agg #[.int .i64 (1 + x), .int .i64 (v), .int .i64 (-1), .int .i64 (0), .int .i64 ((v4 : Int)), .int .i64 (0)]) (by simp [results, Try.results54, go_sem, r0, r1, r2, r3, r4, r5]) rfl ?_
  exact ⟨⟨_, _, _, _, _, _, rfl⟩, _, by omega, K5.out⟩
end Go.Proofs.Ytkaekiodjjhjkaa
namespace Go.Proofs.Ytkaekiodjjhjkaa
open Go.RowKit
theorem SL.row {w : World} {g : Nat} {l : List ByteArray} (h : SL w g l) : RowAt w g 0 l.length 1 fun i => #[.string (l.getD i ⟨#[]⟩)] := ⟨h.1, fun i hi j hj => ⟨by
 obtain rfl : j = 0 := by simpa using hj
 have := h.2 i hi
 simpa using this, by simpa using hj⟩⟩
theorem getD_le {ws : List ByteArray} (h : ∀ x ∈ ws, x.size ≤ 1000) (i : Nat) : (ws.getD i ⟨#[]⟩).size ≤ 1000 := by
 rw [List.getD_eq_getElem?_getD]
 cases hx : ws[i]? with
 | none => show (0 : Nat) ≤ 1000; omega
 | some x => exact h x (List.mem_of_getElem? hx)
theorem str_size {a b : ByteArray} (h : (a.toList == b.toList) = true) : a.size = b.size := by
 have h := eq_of_beq h
 rw [ByteArray.toList_eq, ByteArray.toList_eq] at h
 have := congrArg List.length h
 simpa using this
theorem find_q (l : List ByteArray) (L n : Nat) (hn : l.length = n) (hn2 : n ≤ 1000) (s : ByteArray) (w : World) (h : SL w L l) : Calls Try.prog 90 #[.slice (some ⟨L, 0, none⟩) n n, .string s] w fun e w' => AnyR w (fun x : Int => .int .i64 x) (fun x => -1 ≤ x ∧ x < n) e w' :=
 (find_w l L n hn hn2 s w h).mono fun e w' ⟨⟨v, h1, h2, h3⟩, hb⟩ => ⟨⟨v, h3, h1, h2⟩, hb⟩
theorem readReg_q (s : ByteArray) (w : World) (hs : s.size ≤ 1000) : Calls Try.prog 95 #[.string s] w fun e w' => AnyR w (fun x : Int × Int => .tuple #[.int .i64 x.1, .int .i64 x.2]) (fun _ => True) e w' :=
 (readReg_w s w hs).mono fun e w' ⟨⟨a, b, h⟩, hb⟩ => ⟨⟨(a, b), h, trivial⟩, hb⟩
theorem signed_q (s : ByteArray) (w : World) (hs : s.size ≤ 1000) : Calls Try.prog 96 #[.string s] w fun e w' => AnyR w (fun x : Int => .int .i64 x) (fun _ => True) e w' :=
 (signed_w s w hs).mono fun e w' ⟨⟨a, h⟩, hb⟩ => ⟨⟨a, h, trivial⟩, hb⟩
theorem wq_sl {w : World} {b : Nat} (h : BX w b 9 wqA) : SL w b wqL := ⟨h.lt, fun i hi => by
 rw [h.cell]
 have := g_wq i hi
 simpa [wqS] using this⟩
theorem cq_sl {w : World} {b : Nat} (h : BX w b 9 cqA) : SL w b cqL := ⟨h.lt, fun i hi => by
 rw [h.cell]
 have := g_cq i hi
 simpa [cqS] using this⟩
theorem read_w (ws : List ByteArray) (g c : Nat) (w : World) (h : SL w g ws) (hl1 : 1 ≤ ws.length) (hl6 : ws.length ≤ 6) (hsz : ∀ x ∈ ws, x.size ≤ 1000) :
 Calls Try.prog 80 #[.slice (some ⟨g, 0, none⟩) ws.length c] w fun e w' => AnX e ∧ Below w.heap.size w w' := by
 refine calls_begin Try.func80 rfl 196 rfl (Nat.le_of_ble_eq_true rfl) [(0, .slice (some ⟨g, 0, none⟩) (ws.length) (c))] ⟨rfl, trivial⟩ (fun a0 he0 hm0 => ?_)
 have hR := SL.row h
 have q_1 : (⟨#[108, 111, 97, 100]⟩ : ByteArray).size = 4 := rfl
 have q_2 : (⟨#[115, 116, 111, 114, 101]⟩ : ByteArray).size = 5 := rfl
 have q_3 := getD_le hsz 0
 refine wp_seqR ?_
 refine ka he0 hm0 1 86 (.agg #[.int .i64 0, .int .i64 0, .int .i64 0, .int .i64 0, .int .i64 0, .int .i64 0]) (#[zI 0, zI 0, zI 0, zI 0, zI 0, zI 0]) fun a1 w1 b1 he1 hm1 => ?_
 refine wl_end (wp_seq ?_)
 refine rg_cut (fun az wz => ∃ (b2 : Nat), ∃ (b3 : Nat), ∃ (d1 : Int), EV az 196 [] [(0, .slice (some ⟨g, 0, none⟩) (ws.length) (c)), (2, .pointer (some ⟨b1, 0, none⟩)), (19, .slice (some ⟨g, 0, none⟩) (ws.length) (c)), (20, .pointer (some ⟨g, 0 + 0 * 1, none⟩)), (21, .string (ws.getD 0 ⟨#[]⟩)), (18, .slice (some ⟨b2, 0, none⟩) (21) (21)), (22, .int .i64 (d1)), (23, .agg (#[zI d1, zI 0, zI (-1), zI 0, zI 0, zI 0])), (3, .pointer (some ⟨b3, 0, none⟩))] ∧ MM [] w wz [(1, ⟨true, b1, 86, #[zI 0, zI 0, zI 0, zI 0, zI 0, zI 0]⟩), (2, ⟨true, b2, 9, wqA⟩), (3, ⟨true, b3, 86, #[zI d1, zI 0, zI (-1), zI 0, zI 0, zI 0]⟩)]) ?tree1_ ?cont1_
 case tree1_ =>
  refine wh_begin (by kernel_rfl) hm1 [(1, ⟨true, b1, 86, #[zI 0, zI 0, zI 0, zI 0, zI 0, zI 0]⟩)] ⟨rfl, trivial⟩ (fun w2 hm2 => ?_)
  refine wtb (fuel := 7) [1] he1 hm2 [(19, zS g ws.length c)] fun a2 he2 => ?_
  refine tv (fuel := 6) 2 rfl he2 hm2 (.pointer (some ⟨g, 0 + 0 * 1, none⟩)) (fun wS hmS => rn_indexA _ _ _ rfl _ _ (.pointer (some ⟨g, 0 + 0 * 1, none⟩)) (he2.tmp 19 _ rfl) rfl (ixS 9 1 (by kernel_rfl) (fun w => by kernel_rfl) (g) (0) (ws.length) (c) (0) (by omega) _)) fun a3 he3 => ?_
  refine tv (fuel := 5) 3 rfl he3 hm2 (.string (ws.getD 0 ⟨#[]⟩)) (fun wS hmS => rn_row1 hmS hR (by simp) (0) (by omega) 0 (by omega) _ _ rfl (he3.tmp 20 _ rfl) one9 _ rfl) fun a4 he4 => ?_
  refine up2 (fuel := 4) 0 6 rfl rfl ?st1e_4_0 ?st1e_4_1
  case st1e_4_0 =>
   refine st_callN he4 hm2 2 rfl (fun _ _ => ⟨rfl, trivial⟩) rfl rfl _ #[] (enter_call _ _ _ rfl 91 #[] #[] rfl #[] (map0 _ ) #[] rfl (fun _ _ => by kernel_rfl)) (c_wqs _) (fun x2 b2 a5 w3 hx2 he5 hm3 => ?_)
   refine up2 (fuel := 3) 4 6 rfl rfl ?st1e_5_0 ?st1e_5_1
   case st1e_5_0 =>
    refine sq he5 hm3 (find_q wqL _ 21 rfl (by omega) (ws.getD 0 ⟨#[]⟩) _ (wq_sl (hm3.bx 2 _ _ _ _ rfl))) fun d1 a6 w4 hd1 he6 hm4 => ?_
    refine tv (fuel := 2) 5 rfl he6 hm4 (.agg (#[zI d1, zI 0, zI (-1), zI 0, zI 0, zI 0])) (fun wS hmS => rn_build _ _ rfl #[(0, .int .i64 (d1)), (2, .int .i64 ((-1)))] (pmap2 (he6.tmp 22 _ rfl) rfl) _ (by kernel_rfl)) fun a7 he7 => ?_
    refine up1 (fuel := 1) 6 rfl ?st1e_7_0
    case st1e_7_0 =>
     refine sa he7 hm4 ⟨rfl, trivial⟩ 3 86 (.agg #[.int .i64 0, .int .i64 0, .int .i64 0, .int .i64 0, .int .i64 0, .int .i64 0]) (#[zI 0, zI 0, zI 0, zI 0, zI 0, zI 0]) (fun _ => ⟨rfl, trivial⟩) fun a8 w5 b3 he8 hm5 => ?_
     refine ts (fuel := 0) 7 rfl he8 hm5 3 agg86.sz (0) (.agg (#[zI d1, zI 0, zI (-1), zI 0, zI 0, zI 0])) (#[zI d1, zI 0, zI (-1), zI 0, zI 0, zI 0]) ⟨rfl, trivial⟩ (hin := (by simp)) (hA := (by kernel_rfl)) fun w6 hm6 => ?_
     refine wpAnyH_done (by kernel_rfl) ?_ _
     exact ⟨b2, b3, d1, he8.sb, hm6.sb⟩
   case st1e_5_1 =>
    refine sa he5 hm3 ⟨rfl, trivial⟩ 3 86 (.agg #[.int .i64 0, .int .i64 0, .int .i64 0, .int .i64 0, .int .i64 0, .int .i64 0]) (#[zI 0, zI 0, zI 0, zI 0, zI 0, zI 0]) (fun _ => ⟨rfl, trivial⟩) fun a6 w4 b3 he6 hm4 => ?_
    refine up1 (fuel := 2) 4 rfl ?st1e_9_0
    case st1e_9_0 =>
     refine sq he6 hm4 (find_q wqL _ 21 rfl (by omega) (ws.getD 0 ⟨#[]⟩) _ (wq_sl (hm4.bx 2 _ _ _ _ rfl))) fun d1 a7 w5 hd1 he7 hm5 => ?_
     refine tv (fuel := 1) 5 rfl he7 hm5 (.agg (#[zI d1, zI 0, zI (-1), zI 0, zI 0, zI 0])) (fun wS hmS => rn_build _ _ rfl #[(0, .int .i64 (d1)), (2, .int .i64 ((-1)))] (pmap2 (he7.tmp 22 _ rfl) rfl) _ (by kernel_rfl)) fun a8 he8 => ?_
     refine ts (fuel := 0) 7 rfl he8 hm5 3 agg86.sz (0) (.agg (#[zI d1, zI 0, zI (-1), zI 0, zI 0, zI 0])) (#[zI d1, zI 0, zI (-1), zI 0, zI 0, zI 0]) ⟨rfl, trivial⟩ (hin := (by simp)) (hA := (by kernel_rfl)) fun w6 hm6 => ?_
     refine wpAnyH_done (by kernel_rfl) ?_ _
     exact ⟨b2, b3, d1, he8.sb, hm6.sb⟩
  case st1e_4_1 =>
   refine sa he4 hm2 ⟨rfl, trivial⟩ 3 86 (.agg #[.int .i64 0, .int .i64 0, .int .i64 0, .int .i64 0, .int .i64 0, .int .i64 0]) (#[zI 0, zI 0, zI 0, zI 0, zI 0, zI 0]) (fun _ => ⟨rfl, trivial⟩) fun a5 w3 b3 he5 hm3 => ?_
   refine up1 (fuel := 3) 0 rfl ?st1e_12_0
   case st1e_12_0 =>
    refine st_callN he5 hm3 2 rfl (fun _ _ => ⟨rfl, trivial⟩) rfl rfl _ #[] (enter_call _ _ _ rfl 91 #[] #[] rfl #[] (map0 _ ) #[] rfl (fun _ _ => by kernel_rfl)) (c_wqs _) (fun x2 b2 a6 w4 hx2 he6 hm4 => ?_)
    refine up1 (fuel := 2) 4 rfl ?st1e_13_0
    case st1e_13_0 =>
     refine sq he6 hm4 (find_q wqL _ 21 rfl (by omega) (ws.getD 0 ⟨#[]⟩) _ (wq_sl (hm4.bx 2 _ _ _ _ rfl))) fun d1 a7 w5 hd1 he7 hm5 => ?_
     refine tv (fuel := 1) 5 rfl he7 hm5 (.agg (#[zI d1, zI 0, zI (-1), zI 0, zI 0, zI 0])) (fun wS hmS => rn_build _ _ rfl #[(0, .int .i64 (d1)), (2, .int .i64 ((-1)))] (pmap2 (he7.tmp 22 _ rfl) rfl) _ (by kernel_rfl)) fun a8 he8 => ?_
     refine ts (fuel := 0) 7 rfl he8 hm5 3 agg86.sz (0) (.agg (#[zI d1, zI 0, zI (-1), zI 0, zI 0, zI 0])) (#[zI d1, zI 0, zI (-1), zI 0, zI 0, zI 0]) ⟨rfl, trivial⟩ (hin := (by simp)) (hA := (by kernel_rfl)) fun w6 hm6 => ?_
     refine wpAnyH_done (by kernel_rfl) ?_ _
     exact ⟨b2, b3, d1, he8.sb, hm6.sb⟩
 rintro a10 w7 ⟨b2, b3, d1, he10, hm7⟩
 refine then_normal (wp_seq (wp_seqR ?_))
 refine wb 1 he10 [(4, zI 1)] fun a11 he11 => ?_
 refine wl_end (wp_block ?_)
 refine wp_loopN (fun mz az wz => ∃ (k : Nat), ∃ (o : Int), ∃ (z : Int), mz = 8 - k ∧ ((k = 1 ∨ k = 2 ∨ k = 4 ∨ k = 8)) ∧ EV az 196 [] [(0, .slice (some ⟨g, 0, none⟩) (ws.length) (c)), (2, .pointer (some ⟨b1, 0, none⟩)), (19, .slice (some ⟨g, 0, none⟩) (ws.length) (c)), (20, .pointer (some ⟨g, 0 + 0 * 1, none⟩)), (21, .string (ws.getD 0 ⟨#[]⟩)), (18, .slice (some ⟨b2, 0, none⟩) (21) (21)), (22, .int .i64 (d1)), (23, .agg (#[zI d1, zI 0, zI (-1), zI 0, zI 0, zI 0])), (3, .pointer (some ⟨b3, 0, none⟩)), (4, .int .i64 (((k : Nat) : Int)))] ∧ MM [] w wz [(1, ⟨true, b1, 86, #[zI 0, zI 0, zI 0, zI 0, zI 0, zI 0]⟩), (2, ⟨true, b2, 9, wqA⟩), (3, ⟨true, b3, 86, #[zI o, zI 0, zI (-1), zI 0, zI 0, zI z]⟩)]) ⟨_, 1, d1, 0, rfl, (Or.inl rfl), he11.sb, hm7.sb⟩ ?_
 rintro mz1 a12 w8 ⟨k, o, z, rfl, hrel1, he12, hm8⟩
 refine wp_seq (wp_seqR ?_)
 refine wb 1 he12 [(24, zN k)] fun a13 he13 => ?_
 cases hd1 : (decide (((k : Nat) : Int) ≤ 4))
 ·
  have hd1p := of_decide_eq_false hd1
  refine wr [1] he13 hm8 [(25, zF)] [] (vb (hd1) vl0) fun a14 w9 he14 hm9 => ?_
  refine wl_end (wp_condF (he := he14) rfl (wp_exit (exit_then (exit_then (exit_here (then_normal (wp_seqR ?_)))))))
  refine wb 1 he14 [(58, zS g ws.length c)] fun a15 he15 => ?_
  refine kv he15 (zN ws.length) (rn_builtin _ _ _ rfl #[.slice (some ⟨g, 0, none⟩) (ws.length) (c)] (map1 (he15.tmp 58 _ rfl)) (.int .i64 (((ws.length : Nat) : Int))) (by kernel_rfl)) fun a16 he16 => ?_
  refine wb 1 he16 [(5, zN ws.length)] fun a17 he17 => ?_
  refine wl_end (wp_seq (wp_block (wp_seqR ?_)))
  refine wr [0, 5] he17 hm9 [(62, zI o), (61, zP b3 0)] [b3] vl0 fun a18 w10 he18 hm10 => ?_
  cases hd2 : (inB o 1 11)
  ·
   have hd2p : ¬ (1 ≤ o ∧ o ≤ 11) := by simpa [inB] using hd2
   refine kc he18 hm10 (v := zF) (callsV (congrArg Value.bool (hd2)) (callsS (f49 _ _))) fun a19 w11 he19 hm11 => ?_
   refine wr [0, 0, 0, 0, 0, 0, 5] he19 hm11 [(70, zI o), (69, zP b3 0), (68, zF), (67, zF), (66, zU), (65, zU), (64, zF)] [b3] vl0 fun a20 w12 he20 hm12 => ?_
   cases hd3 : (inB o 12 15)
   ·
    have hd3p : ¬ (12 ≤ o ∧ o ≤ 15) := by simpa [inB] using hd3
    refine kc he20 hm12 (v := zF) (callsV (congrArg Value.bool (hd3)) (callsS (f48 _ _))) fun a21 w13 he21 hm13 => ?_
    refine wb 6 he21 [(60, zF), (76, zF), (75, zF), (74, zU), (73, zU), (72, zF)] fun a22 he22 => ?_
    refine wl_end (wp_condF (he := he22) rfl (wp_seqR ?_))
    refine wr [0, 5] he22 hm13 [(106, zI o), (105, zP b3 0)] [b3] vl0 fun a23 w14 he23 hm14 => ?_
    cases hd4 : ((o == 16))
    ·
     have hd4p : o ≠ 16 := by simpa using hd4
     refine wr [1, 0, 0, 0, 0, 0] he23 hm14 [(104, zF), (111, zF), (110, zU), (109, zU), (108, zF), (107, zF)] [] (vb (hd4) vl0) fun a24 w15 he24 hm15 => ?_
     refine wl_end (wp_condF (he := he24) rfl (wp_seqR ?_))
     refine wr [0, 5] he24 hm15 [(119, zI o), (118, zP b3 0)] [b3] vl0 fun a25 w16 he25 hm16 => ?_
     cases hd5 : ((o == 17))
     ·
      have hd5p : o ≠ 17 := by simpa using hd5
      refine wr [1, 0, 0, 0, 0, 0] he25 hm16 [(117, zF), (124, zF), (123, zU), (122, zU), (121, zF), (120, zF)] [] (vb (hd5) vl0) fun a26 w17 he26 hm17 => ?_
      refine wl_end (wp_condF (he := he26) rfl (wp_seqR ?_))
      refine wr [0, 5] he26 hm17 [(150, zI o), (149, zP b3 0)] [b3] vl0 fun a27 w18 he27 hm18 => ?_
      cases hd6 : ((o == 18))
      ·
       have hd6p : o ≠ 18 := by simpa using hd6
       refine wr [1, 0, 0, 0, 0, 0] he27 hm18 [(148, zF), (155, zF), (154, zU), (153, zU), (152, zF), (151, zF)] [] (vb (hd6) vl0) fun a28 w19 he28 hm19 => ?_
       refine wl_end (wp_condF (he := he28) rfl (wp_seqR ?_))
       refine wr [0, 5] he28 hm19 [(183, zI o), (182, zP b3 0)] [b3] vl0 fun a29 w20 he29 hm20 => ?_
       cases hd7 : ((o == 19))
       ·
        have hd7p : o ≠ 19 := by simpa using hd7
        refine wr [1, 0, 0, 0, 0, 0] he29 hm20 [(181, zF), (188, zF), (187, zU), (186, zU), (185, zF), (184, zF)] [] (vb (hd7) vl0) fun a30 w21 he30 hm21 => ?_
        refine wl_end (wp_condF (he := he30) rfl (wp_skip (in_normal (then_normal (wp_seqR ?_)))))
        refine wm [5, 3] he30 hm21 [(195, .agg (#[zI o, zI 0, zI (-1), zI 0, zI 0, zI z]))] [(1, zE b1 86 (#[zI o, zI 0, zI (-1), zI 0, zI 0, zI z]))] [b1, b3] vl0 fun a31 w22 he31 hm22 => ?_
        refine wl_end (wp_ret ?_)
        exact bodyPost_ret (results_cell he31 hm22 _ _ Try.results80 _ rfl 1 rfl 6 agg86 (by first | rfl | assumption)) he31.defers ⟨⟨_, _, _, _, _, _, rfl⟩, hm22.below⟩
       ·
        have hd7p : o = 19 := by simpa using hd7
        refine wr [1, 0, 0] he29 hm20 [(186, zN ws.length), (185, zT), (184, zT)] [] (vb (hd7) vl0) fun a30 w21 he30 hm21 => ?_
        cases hd8 : ((((ws.length : Nat) : Int) == 2))
        ·
         have hd8p : ((ws.length : Nat) : Int) ≠ 2 := by simpa using hd8
         refine wr [1, 0, 0] he30 hm21 [(181, zF), (188, zF), (187, zF)] [] (vb (hd8) vl0) fun a31 w22 he31 hm22 => ?_
         refine wl_end (wp_condF (he := he31) rfl (wp_skip (in_normal (then_normal (wp_seqR ?_)))))
         refine wm [5, 3] he31 hm22 [(195, .agg (#[zI o, zI 0, zI (-1), zI 0, zI 0, zI z]))] [(1, zE b1 86 (#[zI o, zI 0, zI (-1), zI 0, zI 0, zI z]))] [b1, b3] vl0 fun a32 w23 he32 hm23 => ?_
         refine wl_end (wp_ret ?_)
         exact bodyPost_ret (results_cell he32 hm23 _ _ Try.results80 _ rfl 1 rfl 6 agg86 (by first | rfl | assumption)) he32.defers ⟨⟨_, _, _, _, _, _, rfl⟩, hm23.below⟩
        ·
         have hd8p : ((ws.length : Nat) : Int) = 2 := by simpa using hd8
         refine wr [1, 0, 0] he30 hm21 [(181, zT), (188, zT), (187, zT)] [] (vb (hd8) vl0) fun a31 w22 he31 hm22 => ?_
         refine wl_end (wp_condT (he := he31) rfl ?_)
         refine wh_begin (by kernel_rfl) hm22 [(1, ⟨true, b1, 86, #[zI 0, zI 0, zI 0, zI 0, zI 0, zI 0]⟩), (2, ⟨true, b2, 9, wqA⟩)] ⟨rfl, rfl, trivial⟩ (fun w23 hm23 => ?_)
         refine wtb (fuel := 6) [1] he31 hm23 [(190, zS g ws.length c)] fun a32 he32 => ?_
         refine tv (fuel := 5) 2 rfl he32 hm23 (.pointer (some ⟨g, 0 + 1 * 1, none⟩)) (fun wS hmS => rn_indexA _ _ _ rfl _ _ (.pointer (some ⟨g, 0 + 1 * 1, none⟩)) (he32.tmp 190 _ rfl) rfl (ixS 9 1 (by kernel_rfl) (fun w => by kernel_rfl) (g) (0) (ws.length) (c) (1) (by omega) _)) fun a33 he33 => ?_
         refine tv (fuel := 4) 3 rfl he33 hm23 (.string (ws.getD 1 ⟨#[]⟩)) (fun wS hmS => rn_row1 hmS hR (by simp) (1) (by omega) 0 (by omega) _ _ rfl (he33.tmp 191 _ rfl) one9 _ rfl) fun a34 he34 => ?_
         refine tn (fuel := 3) 0 rfl he34 hm23 4 (c_cqs _) (fun _ _ => ⟨rfl, rfl, trivial⟩) (fun _ _ => ⟨rfl, rfl, trivial⟩) fun x4 b4 a35 w24 hx4 he35 hm24 => ?_
         refine tq (fuel := 2) 4 rfl he35 hm24 (find_q cqL _ 7 rfl (by omega) (ws.getD 1 ⟨#[]⟩) _ (cq_sl (hm24.bx 4 _ _ _ _ rfl))) fun d2 a36 w25 hd2 he36 hm25 => ?_
         refine wtd (fuel := 1) [(5, 0)] he36 hm25 [(194, zP b3 4)] [] vl0 fun a37 he37 => ?_
         refine ts (fuel := 0) 6 rfl he37 hm25 3 one3.sz (4) (.int .i64 (d2)) (#[zI o, zI 0, zI (-1), zI 0, zI d2, zI z]) ⟨rfl, rfl, rfl, trivial⟩ (hin := (by simp)) (hA := (by kernel_rfl)) fun w26 hm26 => ?_
         refine wpAnyH_done (by kernel_rfl) ?_ _
         refine in_normal (then_normal (wp_seqR ?_))
         refine wm [5, 3] he37 hm26 [(195, .agg (#[zI o, zI 0, zI (-1), zI 0, zI d2, zI z]))] [(1, zE b1 86 (#[zI o, zI 0, zI (-1), zI 0, zI d2, zI z]))] [b1, b3] vl0 fun a38 w27 he38 hm27 => ?_
         refine wl_end (wp_ret ?_)
         exact bodyPost_ret (results_cell he38 hm27 _ _ Try.results80 _ rfl 1 rfl 6 agg86 (by first | rfl | assumption)) he38.defers ⟨⟨_, _, _, _, _, _, rfl⟩, hm27.below⟩
      ·
       have hd6p : o = 18 := by simpa using hd6
       refine wr [1, 0, 0] he27 hm18 [(153, zN ws.length), (152, zT), (151, zT)] [] (vb (hd6) vl0) fun a28 w19 he28 hm19 => ?_
       cases hd7 : ((((ws.length : Nat) : Int) == 4))
       ·
        have hd7p : ((ws.length : Nat) : Int) ≠ 4 := by simpa using hd7
        refine wr [1, 0, 0] he28 hm19 [(148, zF), (155, zF), (154, zF)] [] (vb (hd7) vl0) fun a29 w20 he29 hm20 => ?_
        refine wl_end (wp_condF (he := he29) rfl (wp_seqR ?_))
        refine wr [0, 5] he29 hm20 [(183, zI o), (182, zP b3 0)] [b3] vl0 fun a30 w21 he30 hm21 => ?_
        have hf1 : (o == 19) = false := by simp [inB]; omega
        refine wr [1, 0, 0, 0, 0, 0] he30 hm21 [(181, zF), (188, zF), (187, zU), (186, zU), (185, zF), (184, zF)] [] (vb (hf1) vl0) fun a31 w22 he31 hm22 => ?_
        refine wl_end (wp_condF (he := he31) rfl (wp_skip (in_normal (then_normal (wp_seqR ?_)))))
        refine wm [5, 3] he31 hm22 [(195, .agg (#[zI o, zI 0, zI (-1), zI 0, zI 0, zI z]))] [(1, zE b1 86 (#[zI o, zI 0, zI (-1), zI 0, zI 0, zI z]))] [b1, b3] vl0 fun a32 w23 he32 hm23 => ?_
        refine wl_end (wp_ret ?_)
        exact bodyPost_ret (results_cell he32 hm23 _ _ Try.results80 _ rfl 1 rfl 6 agg86 (by first | rfl | assumption)) he32.defers ⟨⟨_, _, _, _, _, _, rfl⟩, hm23.below⟩
       ·
        have hd7p : ((ws.length : Nat) : Int) = 4 := by simpa using hd7
        refine wr [1, 0, 0] he28 hm19 [(148, zT), (155, zT), (154, zT)] [] (vb (hd7) vl0) fun a29 w20 he29 hm20 => ?_
        refine wl_end (wp_condT (he := he29) rfl (wp_seqR ?_))
        refine wb 1 he29 [(157, zS g ws.length c)] fun a30 he30 => ?_
        refine kv he30 (.pointer (some ⟨g, 0 + 1 * 1, none⟩)) (rn_indexA _ _ _ rfl _ _ (.pointer (some ⟨g, 0 + 1 * 1, none⟩)) (he30.tmp 157 _ rfl) rfl (ixS 9 1 (by kernel_rfl) (fun w => by kernel_rfl) (g) (0) (ws.length) (c) (1) (by omega) _)) fun a31 he31 => ?_
        refine kr he31 hm20 one9 hR (1) 0 (.string (ws.getD 1 ⟨#[]⟩)) fun a32 he32 => ?_
        refine kq he32 hm20 (readReg_q (ws.getD 1 ⟨#[]⟩) _ (getD_le hsz _)) fun d2 a33 w21 hd2 he33 hm21 => ?_
        refine wb 5 he33 [(15, zI d2.2), (14, zI d2.1), (162, zI d2.2), (161, zI d2.1), (156, .tuple #[.int .i64 (d2.1), .int .i64 (d2.2)])] fun a34 he34 => ?_
        refine wl_end (wp_seqR ?_)
        refine wb 1 he34 [(164, zS g ws.length c)] fun a35 he35 => ?_
        refine kv he35 (.pointer (some ⟨g, 0 + 3 * 1, none⟩)) (rn_indexA _ _ _ rfl _ _ (.pointer (some ⟨g, 0 + 3 * 1, none⟩)) (he35.tmp 164 _ rfl) rfl (ixS 9 1 (by kernel_rfl) (fun w => by kernel_rfl) (g) (0) (ws.length) (c) (3) (by omega) _)) fun a36 he36 => ?_
        refine kr he36 hm21 one9 hR (3) 0 (.string (ws.getD 3 ⟨#[]⟩)) fun a37 he37 => ?_
        refine kq he37 hm21 (readReg_q (ws.getD 3 ⟨#[]⟩) _ (getD_le hsz _)) fun d3 a38 w22 hd3 he38 hm22 => ?_
        refine wb 5 he38 [(17, zI d3.2), (16, zI d3.1), (169, zI d3.2), (168, zI d3.1), (163, .tuple #[.int .i64 (d3.1), .int .i64 (d3.2)])] fun a39 he39 => ?_
        refine wl_end (wp_seqR ?_)
        refine wm [0, 0, 5] he39 hm22 [(171, zP b3 1), (170, zI d2.1)] [(3, zE b3 86 (#[zI o, zI d2.1, zI (-1), zI 0, zI 0, zI z]))] [b3] vl0 fun a40 w23 he40 hm23 => ?_
        refine wl_end (wp_seqR ?_)
        refine wb 1 he40 [(172, zS g ws.length c)] fun a41 he41 => ?_
        refine kv he41 (.pointer (some ⟨g, 0 + 2 * 1, none⟩)) (rn_indexA _ _ _ rfl _ _ (.pointer (some ⟨g, 0 + 2 * 1, none⟩)) (he41.tmp 172 _ rfl) rfl (ixS 9 1 (by kernel_rfl) (fun w => by kernel_rfl) (g) (0) (ws.length) (c) (2) (by omega) _)) fun a42 he42 => ?_
        refine kr he42 hm23 one9 hR (2) 0 (.string (ws.getD 2 ⟨#[]⟩)) fun a43 he43 => ?_
        refine kq he43 hm23 (signed_q (ws.getD 2 ⟨#[]⟩) _ (getD_le hsz _)) fun d4 a44 w24 hd4 he44 hm24 => ?_
        refine wm [0, 5] he44 hm24 [(176, zP b3 3)] [(3, zE b3 86 (#[zI o, zI d2.1, zI (-1), zI d4, zI 0, zI z]))] [b3] vl0 fun a45 w25 he45 hm25 => ?_
        refine wl_end (wp_seqR ?_)
        refine wm [0, 0, 5] he45 hm25 [(178, zP b3 2), (177, zI d3.1)] [(3, zE b3 86 (#[zI o, zI d2.1, zI d3.1, zI d4, zI 0, zI z]))] [b3] vl0 fun a46 w26 he46 hm26 => ?_
        refine wl_end (wp_region_lit ?_)
        refine wm [0, 0, 5] he46 hm26 [(180, zP b3 4), (179, zI d3.2)] [(3, zE b3 86 (#[zI o, zI d2.1, zI d3.1, zI d4, zI d3.2, zI z]))] [b3] vl0 fun a47 w27 he47 hm27 => ?_
        refine wpList_nil (in_normal (then_normal (wp_seqR ?_)))
        refine wm [5, 3] he47 hm27 [(195, .agg (#[zI o, zI d2.1, zI d3.1, zI d4, zI d3.2, zI z]))] [(1, zE b1 86 (#[zI o, zI d2.1, zI d3.1, zI d4, zI d3.2, zI z]))] [b1, b3] vl0 fun a48 w28 he48 hm28 => ?_
        refine wl_end (wp_ret ?_)
        exact bodyPost_ret (results_cell he48 hm28 _ _ Try.results80 _ rfl 1 rfl 6 agg86 (by first | rfl | assumption)) he48.defers ⟨⟨_, _, _, _, _, _, rfl⟩, hm28.below⟩
     ·
      have hd5p : o = 17 := by simpa using hd5
      refine wr [1, 0, 0] he25 hm16 [(122, zN ws.length), (121, zT), (120, zT)] [] (vb (hd5) vl0) fun a26 w17 he26 hm17 => ?_
      cases hd6 : ((((ws.length : Nat) : Int) == 4))
      ·
       have hd6p : ((ws.length : Nat) : Int) ≠ 4 := by simpa using hd6
       refine wr [1, 0, 0] he26 hm17 [(117, zF), (124, zF), (123, zF)] [] (vb (hd6) vl0) fun a27 w18 he27 hm18 => ?_
       refine wl_end (wp_condF (he := he27) rfl (wp_seqR ?_))
       refine wr [0, 5] he27 hm18 [(150, zI o), (149, zP b3 0)] [b3] vl0 fun a28 w19 he28 hm19 => ?_
       have hf1 : (o == 18) = false := by simp [inB]; omega
       refine wr [1, 0, 0, 0, 0, 0] he28 hm19 [(148, zF), (155, zF), (154, zU), (153, zU), (152, zF), (151, zF)] [] (vb (hf1) vl0) fun a29 w20 he29 hm20 => ?_
       refine wl_end (wp_condF (he := he29) rfl (wp_seqR ?_))
       refine wr [0, 5] he29 hm20 [(183, zI o), (182, zP b3 0)] [b3] vl0 fun a30 w21 he30 hm21 => ?_
       have hf2 : (o == 19) = false := by simp [inB]; omega
       refine wr [1, 0, 0, 0, 0, 0] he30 hm21 [(181, zF), (188, zF), (187, zU), (186, zU), (185, zF), (184, zF)] [] (vb (hf2) vl0) fun a31 w22 he31 hm22 => ?_
       refine wl_end (wp_condF (he := he31) rfl (wp_skip (in_normal (then_normal (wp_seqR ?_)))))
       refine wm [5, 3] he31 hm22 [(195, .agg (#[zI o, zI 0, zI (-1), zI 0, zI 0, zI z]))] [(1, zE b1 86 (#[zI o, zI 0, zI (-1), zI 0, zI 0, zI z]))] [b1, b3] vl0 fun a32 w23 he32 hm23 => ?_
       refine wl_end (wp_ret ?_)
       exact bodyPost_ret (results_cell he32 hm23 _ _ Try.results80 _ rfl 1 rfl 6 agg86 (by first | rfl | assumption)) he32.defers ⟨⟨_, _, _, _, _, _, rfl⟩, hm23.below⟩
      ·
       have hd6p : ((ws.length : Nat) : Int) = 4 := by simpa using hd6
       refine wr [1, 0, 0] he26 hm17 [(117, zT), (124, zT), (123, zT)] [] (vb (hd6) vl0) fun a27 w18 he27 hm18 => ?_
       refine wl_end (wp_condT (he := he27) rfl (wp_seqR ?_))
       refine wb 1 he27 [(126, zS g ws.length c)] fun a28 he28 => ?_
       refine kv he28 (.pointer (some ⟨g, 0 + 1 * 1, none⟩)) (rn_indexA _ _ _ rfl _ _ (.pointer (some ⟨g, 0 + 1 * 1, none⟩)) (he28.tmp 126 _ rfl) rfl (ixS 9 1 (by kernel_rfl) (fun w => by kernel_rfl) (g) (0) (ws.length) (c) (1) (by omega) _)) fun a29 he29 => ?_
       refine kr he29 hm18 one9 hR (1) 0 (.string (ws.getD 1 ⟨#[]⟩)) fun a30 he30 => ?_
       refine kq he30 hm18 (readReg_q (ws.getD 1 ⟨#[]⟩) _ (getD_le hsz _)) fun d2 a31 w19 hd2 he31 hm19 => ?_
       refine wb 5 he31 [(11, zI d2.2), (10, zI d2.1), (131, zI d2.2), (130, zI d2.1), (125, .tuple #[.int .i64 (d2.1), .int .i64 (d2.2)])] fun a32 he32 => ?_
       refine wl_end (wp_seqR ?_)
       refine wb 1 he32 [(133, zS g ws.length c)] fun a33 he33 => ?_
       refine kv he33 (.pointer (some ⟨g, 0 + 2 * 1, none⟩)) (rn_indexA _ _ _ rfl _ _ (.pointer (some ⟨g, 0 + 2 * 1, none⟩)) (he33.tmp 133 _ rfl) rfl (ixS 9 1 (by kernel_rfl) (fun w => by kernel_rfl) (g) (0) (ws.length) (c) (2) (by omega) _)) fun a34 he34 => ?_
       refine kr he34 hm19 one9 hR (2) 0 (.string (ws.getD 2 ⟨#[]⟩)) fun a35 he35 => ?_
       refine kq he35 hm19 (readReg_q (ws.getD 2 ⟨#[]⟩) _ (getD_le hsz _)) fun d3 a36 w20 hd3 he36 hm20 => ?_
       refine wb 5 he36 [(13, zI d3.2), (12, zI d3.1), (138, zI d3.2), (137, zI d3.1), (132, .tuple #[.int .i64 (d3.1), .int .i64 (d3.2)])] fun a37 he37 => ?_
       refine wl_end (wp_seqR ?_)
       refine wm [0, 0, 5] he37 hm20 [(140, zP b3 1), (139, zI d2.1)] [(3, zE b3 86 (#[zI o, zI d2.1, zI (-1), zI 0, zI 0, zI z]))] [b3] vl0 fun a38 w21 he38 hm21 => ?_
       refine wl_end (wp_seqR ?_)
       refine wm [0, 0, 5] he38 hm21 [(142, zP b3 2), (141, zI d3.1)] [(3, zE b3 86 (#[zI o, zI d2.1, zI d3.1, zI 0, zI 0, zI z]))] [b3] vl0 fun a39 w22 he39 hm22 => ?_
       refine wl_end (wp_region_lit ?_)
       refine wb 1 he39 [(143, zS g ws.length c)] fun a40 he40 => ?_
       refine kv he40 (.pointer (some ⟨g, 0 + 3 * 1, none⟩)) (rn_indexA _ _ _ rfl _ _ (.pointer (some ⟨g, 0 + 3 * 1, none⟩)) (he40.tmp 143 _ rfl) rfl (ixS 9 1 (by kernel_rfl) (fun w => by kernel_rfl) (g) (0) (ws.length) (c) (3) (by omega) _)) fun a41 he41 => ?_
       refine kr he41 hm22 one9 hR (3) 0 (.string (ws.getD 3 ⟨#[]⟩)) fun a42 he42 => ?_
       refine kq he42 hm22 (signed_q (ws.getD 3 ⟨#[]⟩) _ (getD_le hsz _)) fun d4 a43 w23 hd4 he43 hm23 => ?_
       refine wm [0, 5] he43 hm23 [(147, zP b3 3)] [(3, zE b3 86 (#[zI o, zI d2.1, zI d3.1, zI d4, zI 0, zI z]))] [b3] vl0 fun a44 w24 he44 hm24 => ?_
       refine wpList_nil (in_normal (then_normal (wp_seqR ?_)))
       refine wm [5, 3] he44 hm24 [(195, .agg (#[zI o, zI d2.1, zI d3.1, zI d4, zI 0, zI z]))] [(1, zE b1 86 (#[zI o, zI d2.1, zI d3.1, zI d4, zI 0, zI z]))] [b1, b3] vl0 fun a45 w25 he45 hm25 => ?_
       refine wl_end (wp_ret ?_)
       exact bodyPost_ret (results_cell he45 hm25 _ _ Try.results80 _ rfl 1 rfl 6 agg86 (by first | rfl | assumption)) he45.defers ⟨⟨_, _, _, _, _, _, rfl⟩, hm25.below⟩
    ·
     have hd4p : o = 16 := by simpa using hd4
     refine wr [1, 0, 0] he23 hm14 [(109, zN ws.length), (108, zT), (107, zT)] [] (vb (hd4) vl0) fun a24 w15 he24 hm15 => ?_
     cases hd5 : ((((ws.length : Nat) : Int) == 2))
     ·
      have hd5p : ((ws.length : Nat) : Int) ≠ 2 := by simpa using hd5
      refine wr [1, 0, 0] he24 hm15 [(104, zF), (111, zF), (110, zF)] [] (vb (hd5) vl0) fun a25 w16 he25 hm16 => ?_
      refine wl_end (wp_condF (he := he25) rfl (wp_seqR ?_))
      refine wr [0, 5] he25 hm16 [(119, zI o), (118, zP b3 0)] [b3] vl0 fun a26 w17 he26 hm17 => ?_
      have hf1 : (o == 17) = false := by simp [inB]; omega
      refine wr [1, 0, 0, 0, 0, 0] he26 hm17 [(117, zF), (124, zF), (123, zU), (122, zU), (121, zF), (120, zF)] [] (vb (hf1) vl0) fun a27 w18 he27 hm18 => ?_
      refine wl_end (wp_condF (he := he27) rfl (wp_seqR ?_))
      refine wr [0, 5] he27 hm18 [(150, zI o), (149, zP b3 0)] [b3] vl0 fun a28 w19 he28 hm19 => ?_
      have hf2 : (o == 18) = false := by simp [inB]; omega
      refine wr [1, 0, 0, 0, 0, 0] he28 hm19 [(148, zF), (155, zF), (154, zU), (153, zU), (152, zF), (151, zF)] [] (vb (hf2) vl0) fun a29 w20 he29 hm20 => ?_
      refine wl_end (wp_condF (he := he29) rfl (wp_seqR ?_))
      refine wr [0, 5] he29 hm20 [(183, zI o), (182, zP b3 0)] [b3] vl0 fun a30 w21 he30 hm21 => ?_
      have hf3 : (o == 19) = false := by simp [inB]; omega
      refine wr [1, 0, 0, 0, 0, 0] he30 hm21 [(181, zF), (188, zF), (187, zU), (186, zU), (185, zF), (184, zF)] [] (vb (hf3) vl0) fun a31 w22 he31 hm22 => ?_
      refine wl_end (wp_condF (he := he31) rfl (wp_skip (in_normal (then_normal (wp_seqR ?_)))))
      refine wm [5, 3] he31 hm22 [(195, .agg (#[zI o, zI 0, zI (-1), zI 0, zI 0, zI z]))] [(1, zE b1 86 (#[zI o, zI 0, zI (-1), zI 0, zI 0, zI z]))] [b1, b3] vl0 fun a32 w23 he32 hm23 => ?_
      refine wl_end (wp_ret ?_)
      exact bodyPost_ret (results_cell he32 hm23 _ _ Try.results80 _ rfl 1 rfl 6 agg86 (by first | rfl | assumption)) he32.defers ⟨⟨_, _, _, _, _, _, rfl⟩, hm23.below⟩
     ·
      have hd5p : ((ws.length : Nat) : Int) = 2 := by simpa using hd5
      refine wr [1, 0, 0] he24 hm15 [(104, zT), (111, zT), (110, zT)] [] (vb (hd5) vl0) fun a25 w16 he25 hm16 => ?_
      refine wl_end (wp_condT (he := he25) rfl (wp_region_lit ?_))
      refine wb 1 he25 [(112, zS g ws.length c)] fun a26 he26 => ?_
      refine kv he26 (.pointer (some ⟨g, 0 + 1 * 1, none⟩)) (rn_indexA _ _ _ rfl _ _ (.pointer (some ⟨g, 0 + 1 * 1, none⟩)) (he26.tmp 112 _ rfl) rfl (ixS 9 1 (by kernel_rfl) (fun w => by kernel_rfl) (g) (0) (ws.length) (c) (1) (by omega) _)) fun a27 he27 => ?_
      refine kr he27 hm16 one9 hR (1) 0 (.string (ws.getD 1 ⟨#[]⟩)) fun a28 he28 => ?_
      refine kq he28 hm16 (signed_q (ws.getD 1 ⟨#[]⟩) _ (getD_le hsz _)) fun d2 a29 w17 hd2 he29 hm17 => ?_
      refine wm [0, 5] he29 hm17 [(116, zP b3 3)] [(3, zE b3 86 (#[zI o, zI 0, zI (-1), zI d2, zI 0, zI z]))] [b3] vl0 fun a30 w18 he30 hm18 => ?_
      refine wpList_nil (in_normal (then_normal (wp_seqR ?_)))
      refine wm [5, 3] he30 hm18 [(195, .agg (#[zI o, zI 0, zI (-1), zI d2, zI 0, zI z]))] [(1, zE b1 86 (#[zI o, zI 0, zI (-1), zI d2, zI 0, zI z]))] [b1, b3] vl0 fun a31 w19 he31 hm19 => ?_
      refine wl_end (wp_ret ?_)
      exact bodyPost_ret (results_cell he31 hm19 _ _ Try.results80 _ rfl 1 rfl 6 agg86 (by first | rfl | assumption)) he31.defers ⟨⟨_, _, _, _, _, _, rfl⟩, hm19.below⟩
   ·
    have hd3p : (12 ≤ o ∧ o ≤ 15) := by simpa [inB] using hd3
    refine kc he20 hm12 (v := zT) (callsV (congrArg Value.bool (hd3)) (callsS (f48 _ _))) fun a21 w13 he21 hm13 => ?_
    refine wb 2 he21 [(73, zN ws.length), (72, zT)] fun a22 he22 => ?_
    cases hd4 : ((((ws.length : Nat) : Int) == 4))
    ·
     have hd4p : ((ws.length : Nat) : Int) ≠ 4 := by simpa using hd4
     refine wr [1, 0, 0, 0] he22 hm13 [(60, zF), (76, zF), (75, zF), (74, zF)] [] (vb (hd4) vl0) fun a23 w14 he23 hm14 => ?_
     refine wl_end (wp_condF (he := he23) rfl (wp_seqR ?_))
     refine wr [0, 5] he23 hm14 [(106, zI o), (105, zP b3 0)] [b3] vl0 fun a24 w15 he24 hm15 => ?_
     have hf1 : (o == 16) = false := by simp [inB]; omega
     refine wr [1, 0, 0, 0, 0, 0] he24 hm15 [(104, zF), (111, zF), (110, zU), (109, zU), (108, zF), (107, zF)] [] (vb (hf1) vl0) fun a25 w16 he25 hm16 => ?_
     refine wl_end (wp_condF (he := he25) rfl (wp_seqR ?_))
     refine wr [0, 5] he25 hm16 [(119, zI o), (118, zP b3 0)] [b3] vl0 fun a26 w17 he26 hm17 => ?_
     have hf2 : (o == 17) = false := by simp [inB]; omega
     refine wr [1, 0, 0, 0, 0, 0] he26 hm17 [(117, zF), (124, zF), (123, zU), (122, zU), (121, zF), (120, zF)] [] (vb (hf2) vl0) fun a27 w18 he27 hm18 => ?_
     refine wl_end (wp_condF (he := he27) rfl (wp_seqR ?_))
     refine wr [0, 5] he27 hm18 [(150, zI o), (149, zP b3 0)] [b3] vl0 fun a28 w19 he28 hm19 => ?_
     have hf3 : (o == 18) = false := by simp [inB]; omega
     refine wr [1, 0, 0, 0, 0, 0] he28 hm19 [(148, zF), (155, zF), (154, zU), (153, zU), (152, zF), (151, zF)] [] (vb (hf3) vl0) fun a29 w20 he29 hm20 => ?_
     refine wl_end (wp_condF (he := he29) rfl (wp_seqR ?_))
     refine wr [0, 5] he29 hm20 [(183, zI o), (182, zP b3 0)] [b3] vl0 fun a30 w21 he30 hm21 => ?_
     have hf4 : (o == 19) = false := by simp [inB]; omega
     refine wr [1, 0, 0, 0, 0, 0] he30 hm21 [(181, zF), (188, zF), (187, zU), (186, zU), (185, zF), (184, zF)] [] (vb (hf4) vl0) fun a31 w22 he31 hm22 => ?_
     refine wl_end (wp_condF (he := he31) rfl (wp_skip (in_normal (then_normal (wp_seqR ?_)))))
     refine wm [5, 3] he31 hm22 [(195, .agg (#[zI o, zI 0, zI (-1), zI 0, zI 0, zI z]))] [(1, zE b1 86 (#[zI o, zI 0, zI (-1), zI 0, zI 0, zI z]))] [b1, b3] vl0 fun a32 w23 he32 hm23 => ?_
     refine wl_end (wp_ret ?_)
     exact bodyPost_ret (results_cell he32 hm23 _ _ Try.results80 _ rfl 1 rfl 6 agg86 (by first | rfl | assumption)) he32.defers ⟨⟨_, _, _, _, _, _, rfl⟩, hm23.below⟩
    ·
     have hd4p : ((ws.length : Nat) : Int) = 4 := by simpa using hd4
     refine wr [1, 0, 0, 0] he22 hm13 [(60, zT), (76, zT), (75, zT), (74, zT)] [] (vb (hd4) vl0) fun a23 w14 he23 hm14 => ?_
     refine wl_end (wp_condT (he := he23) rfl (wp_seqR ?_))
     refine wb 1 he23 [(78, zS g ws.length c)] fun a24 he24 => ?_
     refine kv he24 (.pointer (some ⟨g, 0 + 1 * 1, none⟩)) (rn_indexA _ _ _ rfl _ _ (.pointer (some ⟨g, 0 + 1 * 1, none⟩)) (he24.tmp 78 _ rfl) rfl (ixS 9 1 (by kernel_rfl) (fun w => by kernel_rfl) (g) (0) (ws.length) (c) (1) (by omega) _)) fun a25 he25 => ?_
     refine kr he25 hm14 one9 hR (1) 0 (.string (ws.getD 1 ⟨#[]⟩)) fun a26 he26 => ?_
     refine kq he26 hm14 (readReg_q (ws.getD 1 ⟨#[]⟩) _ (getD_le hsz _)) fun d2 a27 w15 hd2 he27 hm15 => ?_
     refine wb 5 he27 [(7, zI d2.2), (6, zI d2.1), (83, zI d2.2), (82, zI d2.1), (77, .tuple #[.int .i64 (d2.1), .int .i64 (d2.2)])] fun a28 he28 => ?_
     refine wl_end (wp_seqR ?_)
     refine wb 1 he28 [(85, zS g ws.length c)] fun a29 he29 => ?_
     refine kv he29 (.pointer (some ⟨g, 0 + 2 * 1, none⟩)) (rn_indexA _ _ _ rfl _ _ (.pointer (some ⟨g, 0 + 2 * 1, none⟩)) (he29.tmp 85 _ rfl) rfl (ixS 9 1 (by kernel_rfl) (fun w => by kernel_rfl) (g) (0) (ws.length) (c) (2) (by omega) _)) fun a30 he30 => ?_
     refine kr he30 hm15 one9 hR (2) 0 (.string (ws.getD 2 ⟨#[]⟩)) fun a31 he31 => ?_
     refine kq he31 hm15 (readReg_q (ws.getD 2 ⟨#[]⟩) _ (getD_le hsz _)) fun d3 a32 w16 hd3 he32 hm16 => ?_
     refine wb 5 he32 [(9, zI d3.2), (8, zI d3.1), (90, zI d3.2), (89, zI d3.1), (84, .tuple #[.int .i64 (d3.1), .int .i64 (d3.2)])] fun a33 he33 => ?_
     refine wl_end (wp_seqR ?_)
     refine wm [0, 0, 5] he33 hm16 [(92, zP b3 1), (91, zI d2.1)] [(3, zE b3 86 (#[zI o, zI d2.1, zI (-1), zI 0, zI 0, zI z]))] [b3] vl0 fun a34 w17 he34 hm17 => ?_
     refine wl_end (wp_seqR ?_)
     refine wm [0, 0, 5] he34 hm17 [(94, zP b3 2), (93, zI d3.1)] [(3, zE b3 86 (#[zI o, zI d2.1, zI d3.1, zI 0, zI 0, zI z]))] [b3] vl0 fun a35 w18 he35 hm18 => ?_
     refine wl_end (wp_seqR ?_)
     refine wm [0, 0, 5] he35 hm18 [(96, zP b3 4), (95, zI d3.2)] [(3, zE b3 86 (#[zI o, zI d2.1, zI d3.1, zI 0, zI d3.2, zI z]))] [b3] vl0 fun a36 w19 he36 hm19 => ?_
     refine wl_end (wp_seqR ?_)
     refine wr [0, 1] he36 hm19 [(98, zT), (97, zN ws.length)] [] (vb (hd4) vl0) fun a37 w20 he37 hm20 => ?_
     refine wl_end (wp_condT (he := he37) rfl (wp_region_lit ?_))
     refine wb 1 he37 [(99, zS g ws.length c)] fun a38 he38 => ?_
     refine kv he38 (.pointer (some ⟨g, 0 + 3 * 1, none⟩)) (rn_indexA _ _ _ rfl _ _ (.pointer (some ⟨g, 0 + 3 * 1, none⟩)) (he38.tmp 99 _ rfl) rfl (ixS 9 1 (by kernel_rfl) (fun w => by kernel_rfl) (g) (0) (ws.length) (c) (3) (by omega) _)) fun a39 he39 => ?_
     refine kr he39 hm20 one9 hR (3) 0 (.string (ws.getD 3 ⟨#[]⟩)) fun a40 he40 => ?_
     refine kq he40 hm20 (signed_q (ws.getD 3 ⟨#[]⟩) _ (getD_le hsz _)) fun d4 a41 w21 hd4 he41 hm21 => ?_
     refine wm [0, 5] he41 hm21 [(103, zP b3 3)] [(3, zE b3 86 (#[zI o, zI d2.1, zI d3.1, zI d4, zI d3.2, zI z]))] [b3] vl0 fun a42 w22 he42 hm22 => ?_
     refine wpList_nil (in_normal (then_normal (wp_seqR ?_)))
     refine wm [5, 3] he42 hm22 [(195, .agg (#[zI o, zI d2.1, zI d3.1, zI d4, zI d3.2, zI z]))] [(1, zE b1 86 (#[zI o, zI d2.1, zI d3.1, zI d4, zI d3.2, zI z]))] [b1, b3] vl0 fun a43 w23 he43 hm23 => ?_
     refine wl_end (wp_ret ?_)
     exact bodyPost_ret (results_cell he43 hm23 _ _ Try.results80 _ rfl 1 rfl 6 agg86 (by first | rfl | assumption)) he43.defers ⟨⟨_, _, _, _, _, _, rfl⟩, hm23.below⟩
  ·
   have hd2p : (1 ≤ o ∧ o ≤ 11) := by simpa [inB] using hd2
   refine kc he18 hm10 (v := zT) (callsV (congrArg Value.bool (hd2)) (callsS (f49 _ _))) fun a19 w11 he19 hm11 => ?_
   refine wb 2 he19 [(65, zN ws.length), (64, zT)] fun a20 he20 => ?_
   cases hd3 : ((((ws.length : Nat) : Int) == 3))
   ·
    have hd3p : ((ws.length : Nat) : Int) ≠ 3 := by simpa using hd3
    refine wr [1, 0, 0, 0, 5] he20 hm11 [(70, zI o), (69, zP b3 0), (68, zF), (67, zF), (66, zF)] [b3] (vb (hd3) vl0) fun a21 w12 he21 hm12 => ?_
    have hf1 : inB o 12 15 = false := by simp [inB]; omega
    refine kc he21 hm12 (v := zF) (callsV (congrArg Value.bool (hf1)) (callsS (f48 _ _))) fun a22 w13 he22 hm13 => ?_
    refine wb 6 he22 [(60, zF), (76, zF), (75, zF), (74, zU), (73, zU), (72, zF)] fun a23 he23 => ?_
    refine wl_end (wp_condF (he := he23) rfl (wp_seqR ?_))
    refine wr [0, 5] he23 hm13 [(106, zI o), (105, zP b3 0)] [b3] vl0 fun a24 w14 he24 hm14 => ?_
    have hf2 : (o == 16) = false := by simp [inB]; omega
    refine wr [1, 0, 0, 0, 0, 0] he24 hm14 [(104, zF), (111, zF), (110, zU), (109, zU), (108, zF), (107, zF)] [] (vb (hf2) vl0) fun a25 w15 he25 hm15 => ?_
    refine wl_end (wp_condF (he := he25) rfl (wp_seqR ?_))
    refine wr [0, 5] he25 hm15 [(119, zI o), (118, zP b3 0)] [b3] vl0 fun a26 w16 he26 hm16 => ?_
    have hf3 : (o == 17) = false := by simp [inB]; omega
    refine wr [1, 0, 0, 0, 0, 0] he26 hm16 [(117, zF), (124, zF), (123, zU), (122, zU), (121, zF), (120, zF)] [] (vb (hf3) vl0) fun a27 w17 he27 hm17 => ?_
    refine wl_end (wp_condF (he := he27) rfl (wp_seqR ?_))
    refine wr [0, 5] he27 hm17 [(150, zI o), (149, zP b3 0)] [b3] vl0 fun a28 w18 he28 hm18 => ?_
    have hf4 : (o == 18) = false := by simp [inB]; omega
    refine wr [1, 0, 0, 0, 0, 0] he28 hm18 [(148, zF), (155, zF), (154, zU), (153, zU), (152, zF), (151, zF)] [] (vb (hf4) vl0) fun a29 w19 he29 hm19 => ?_
    refine wl_end (wp_condF (he := he29) rfl (wp_seqR ?_))
    refine wr [0, 5] he29 hm19 [(183, zI o), (182, zP b3 0)] [b3] vl0 fun a30 w20 he30 hm20 => ?_
    have hf5 : (o == 19) = false := by simp [inB]; omega
    refine wr [1, 0, 0, 0, 0, 0] he30 hm20 [(181, zF), (188, zF), (187, zU), (186, zU), (185, zF), (184, zF)] [] (vb (hf5) vl0) fun a31 w21 he31 hm21 => ?_
    refine wl_end (wp_condF (he := he31) rfl (wp_skip (in_normal (then_normal (wp_seqR ?_)))))
    refine wm [5, 3] he31 hm21 [(195, .agg (#[zI o, zI 0, zI (-1), zI 0, zI 0, zI z]))] [(1, zE b1 86 (#[zI o, zI 0, zI (-1), zI 0, zI 0, zI z]))] [b1, b3] vl0 fun a32 w22 he32 hm22 => ?_
    refine wl_end (wp_ret ?_)
    exact bodyPost_ret (results_cell he32 hm22 _ _ Try.results80 _ rfl 1 rfl 6 agg86 (by first | rfl | assumption)) he32.defers ⟨⟨_, _, _, _, _, _, rfl⟩, hm22.below⟩
   ·
    have hd3p : ((ws.length : Nat) : Int) = 3 := by simpa using hd3
    refine wr [1, 0, 0, 0, 0, 0, 0, 0, 0, 0, 0, 0] he20 hm11 [(60, zT), (76, zT), (75, zU), (74, zU), (73, zU), (72, zU), (71, zU), (70, zU), (69, zU), (68, zT), (67, zT), (66, zT)] [] (vb (hd3) vl0) fun a21 w12 he21 hm12 => ?_
    refine wl_end (wp_condT (he := he21) rfl (wp_seqR ?_))
    refine wb 1 he21 [(78, zS g ws.length c)] fun a22 he22 => ?_
    refine kv he22 (.pointer (some ⟨g, 0 + 1 * 1, none⟩)) (rn_indexA _ _ _ rfl _ _ (.pointer (some ⟨g, 0 + 1 * 1, none⟩)) (he22.tmp 78 _ rfl) rfl (ixS 9 1 (by kernel_rfl) (fun w => by kernel_rfl) (g) (0) (ws.length) (c) (1) (by omega) _)) fun a23 he23 => ?_
    refine kr he23 hm12 one9 hR (1) 0 (.string (ws.getD 1 ⟨#[]⟩)) fun a24 he24 => ?_
    refine kq he24 hm12 (readReg_q (ws.getD 1 ⟨#[]⟩) _ (getD_le hsz _)) fun d2 a25 w13 hd2 he25 hm13 => ?_
    refine wb 5 he25 [(7, zI d2.2), (6, zI d2.1), (83, zI d2.2), (82, zI d2.1), (77, .tuple #[.int .i64 (d2.1), .int .i64 (d2.2)])] fun a26 he26 => ?_
    refine wl_end (wp_seqR ?_)
    refine wb 1 he26 [(85, zS g ws.length c)] fun a27 he27 => ?_
    refine kv he27 (.pointer (some ⟨g, 0 + 2 * 1, none⟩)) (rn_indexA _ _ _ rfl _ _ (.pointer (some ⟨g, 0 + 2 * 1, none⟩)) (he27.tmp 85 _ rfl) rfl (ixS 9 1 (by kernel_rfl) (fun w => by kernel_rfl) (g) (0) (ws.length) (c) (2) (by omega) _)) fun a28 he28 => ?_
    refine kr he28 hm13 one9 hR (2) 0 (.string (ws.getD 2 ⟨#[]⟩)) fun a29 he29 => ?_
    refine kq he29 hm13 (readReg_q (ws.getD 2 ⟨#[]⟩) _ (getD_le hsz _)) fun d3 a30 w14 hd3 he30 hm14 => ?_
    refine wb 5 he30 [(9, zI d3.2), (8, zI d3.1), (90, zI d3.2), (89, zI d3.1), (84, .tuple #[.int .i64 (d3.1), .int .i64 (d3.2)])] fun a31 he31 => ?_
    refine wl_end (wp_seqR ?_)
    refine wm [0, 0, 5] he31 hm14 [(92, zP b3 1), (91, zI d2.1)] [(3, zE b3 86 (#[zI o, zI d2.1, zI (-1), zI 0, zI 0, zI z]))] [b3] vl0 fun a32 w15 he32 hm15 => ?_
    refine wl_end (wp_seqR ?_)
    refine wm [0, 0, 5] he32 hm15 [(94, zP b3 2), (93, zI d3.1)] [(3, zE b3 86 (#[zI o, zI d2.1, zI d3.1, zI 0, zI 0, zI z]))] [b3] vl0 fun a33 w16 he33 hm16 => ?_
    refine wl_end (wp_seqR ?_)
    refine wm [0, 0, 5] he33 hm16 [(96, zP b3 4), (95, zI d3.2)] [(3, zE b3 86 (#[zI o, zI d2.1, zI d3.1, zI 0, zI d3.2, zI z]))] [b3] vl0 fun a34 w17 he34 hm17 => ?_
    refine wl_end (wp_seqR ?_)
    refine wb 1 he34 [(97, zN ws.length)] fun a35 he35 => ?_
    have hf1 : (((ws.length : Nat) : Int) == 4) = false := by simp [inB]; omega
    refine wr [1] he35 hm17 [(98, zF)] [] (vb (hf1) vl0) fun a36 w18 he36 hm18 => ?_
    refine wl_end (wp_condF (he := he36) rfl (wp_skip (in_normal (then_normal (wp_seqR ?_)))))
    refine wm [5, 3] he36 hm18 [(195, .agg (#[zI o, zI d2.1, zI d3.1, zI 0, zI d3.2, zI z]))] [(1, zE b1 86 (#[zI o, zI d2.1, zI d3.1, zI 0, zI d3.2, zI z]))] [b1, b3] vl0 fun a37 w19 he37 hm19 => ?_
    refine wl_end (wp_ret ?_)
    exact bodyPost_ret (results_cell he37 hm19 _ _ Try.results80 _ rfl 1 rfl 6 agg86 (by first | rfl | assumption)) he37.defers ⟨⟨_, _, _, _, _, _, rfl⟩, hm19.below⟩
 ·
  have hd1p := of_decide_eq_true hd1
  refine wr [1] he13 hm8 [(25, zT)] [] (vb (hd1) vl0) fun a14 w9 he14 hm9 => ?_
  refine wl_end (wp_condT (he := he14) rfl (wp_skip (then_normal (wp_seq (wp_block (wp_seq ?_))))))
  refine wh_begin (by kernel_rfl) hm9 [(1, ⟨true, b1, 86, #[zI 0, zI 0, zI 0, zI 0, zI 0, zI 0]⟩), (2, ⟨true, b2, 9, wqA⟩), (3, ⟨true, b3, 86, #[zI o, zI 0, zI (-1), zI 0, zI 0, zI z]⟩)] ⟨rfl, rfl, rfl, trivial⟩ (fun w10 hm10 => ?_)
  refine wtb (fuel := 15) [0] he14 hm10 [(28, zS g ws.length c)] fun a15 he15 => ?_
  refine tv (fuel := 14) 1 rfl he15 hm10 (.pointer (some ⟨g, 0 + 0 * 1, none⟩)) (fun wS hmS => rn_indexA _ _ _ rfl _ _ (.pointer (some ⟨g, 0 + 0 * 1, none⟩)) (he15.tmp 28 _ rfl) rfl (ixS 9 1 (by kernel_rfl) (fun w => by kernel_rfl) (g) (0) (ws.length) (c) (0) (by omega) _)) fun a16 he16 => ?_
  refine tv (fuel := 13) 2 rfl he16 hm10 (.string (ws.getD 0 ⟨#[]⟩)) (fun wS hmS => rn_row1 hmS hR (by simp) (0) (by omega) 0 (by omega) _ _ rfl (he16.tmp 29 _ rfl) one9 _ rfl) fun a17 he17 => ?_
  refine wtb (fuel := 12) [3] he17 hm10 [(31, zN k)] fun a18 he18 => ?_
  refine tq (fuel := 11) 4 rfl he18 hm10 (dec_q ((k : Nat) : Int) (by omega) (by omega) _) fun d2 a19 w11 hd2 he19 hm11 => ?_
  obtain ⟨z1, hz1, hsz1⟩ := cat2 (⟨#[108, 111, 97, 100]⟩) (d2)
  refine tz (fuel := 10) 5 rfl he19 hm11 hz1 fun a20 he20 => ?_
  cases hd2 : (((ws.getD 0 ⟨#[]⟩).toList == (z1).toList))
  ·
   have hd2p : (ws.getD 0 ⟨#[]⟩).toList ≠ (z1).toList := by simpa using hd2
   refine tv (fuel := 9) 6 rfl he20 hm11 (zF) (fun wS hmS => rn_seq _ (by simp) _ _ _ _ rfl _ _ (he20.tmp 30 _ rfl) (he20.tmp 33 _ rfl) _ (by first | (simp [hd2]; done) | rw [if_pos rfl, hd2] | rw [if_neg (by decide), hd2])) fun a21 he21 => ?_
   refine wtb (fuel := 7) [7, 8] he21 hm11 [(36, zS g ws.length c), (35, zF)] fun a22 he22 => ?_
   refine tv (fuel := 6) 9 rfl he22 hm11 (.pointer (some ⟨g, 0 + 0 * 1, none⟩)) (fun wS hmS => rn_indexA _ _ _ rfl _ _ (.pointer (some ⟨g, 0 + 0 * 1, none⟩)) (he22.tmp 36 _ rfl) rfl (ixS 9 1 (by kernel_rfl) (fun w => by kernel_rfl) (g) (0) (ws.length) (c) (0) (by omega) _)) fun a23 he23 => ?_
   refine tv (fuel := 5) 10 rfl he23 hm11 (.string (ws.getD 0 ⟨#[]⟩)) (fun wS hmS => rn_row1 hmS hR (by simp) (0) (by omega) 0 (by omega) _ _ rfl (he23.tmp 37 _ rfl) one9 _ rfl) fun a24 he24 => ?_
   refine wtb (fuel := 4) [11] he24 hm11 [(39, zN k)] fun a25 he25 => ?_
   refine tq (fuel := 3) 12 rfl he25 hm11 (dec_q ((k : Nat) : Int) (by omega) (by omega) _) fun d3 a26 w12 hd3 he26 hm12 => ?_
   obtain ⟨z2, hz2, hsz2⟩ := cat2 (⟨#[115, 116, 111, 114, 101]⟩) (d3)
   refine tz (fuel := 2) 13 rfl he26 hm12 hz2 fun a27 he27 => ?_
   cases hd3 : (((ws.getD 0 ⟨#[]⟩).toList == (z2).toList))
   ·
    have hd3p : (ws.getD 0 ⟨#[]⟩).toList ≠ (z2).toList := by simpa using hd3
    refine tv (fuel := 1) 14 rfl he27 hm12 (zF) (fun wS hmS => rn_seq _ (by simp) _ _ _ _ rfl _ _ (he27.tmp 38 _ rfl) (he27.tmp 41 _ rfl) _ (by first | (simp [hd3]; done) | rw [if_pos rfl, hd3] | rw [if_neg (by decide), hd3])) fun a28 he28 => ?_
    refine wtb (fuel := 0) [15] he28 hm12 [(43, zF)] fun a29 he29 => ?_
    refine wpAnyH_done (by kernel_rfl) ?_ _
    refine then_normal (wp_condF (he := he29) rfl (wp_skip (in_normal (then_normal (wp_region_lit ?_)))))
    refine wb 1 he29 [(26, zN k)] fun a30 he30 => ?_
    refine kv he30 (zN (k * 2)) (rn_bin _ _ _ _ _ rfl .i64 _ _ (he30.tmp 26 _ rfl) rfl (.int .i64 (IntKind.wrap .i64 (((k : Nat) : Int) * 2))) _ rfl (mulN (i := k) (c := 2) (by omega))) fun a31 he31 => ?_
    refine wb 1 he31 [(4, zN (k * 2))] fun a32 he32 => ?_
    refine wpList_nil ?_
    exact ⟨8 - (k * 2), by omega, k * 2, o, z, rfl, (by omega), he32.sb, hm12.sb⟩
   ·
    have hshd3 := str_size hd3
    have hd3p : (ws.getD 0 ⟨#[]⟩).toList = (z2).toList := by simpa using hd3
    refine tv (fuel := 1) 14 rfl he27 hm12 (zT) (fun wS hmS => rn_seq _ (by simp) _ _ _ _ rfl _ _ (he27.tmp 38 _ rfl) (he27.tmp 41 _ rfl) _ (by first | (simp [hd3]; done) | rw [if_pos rfl, hd3] | rw [if_neg (by decide), hd3])) fun a28 he28 => ?_
    refine wtb (fuel := 0) [15] he28 hm12 [(43, zT)] fun a29 he29 => ?_
    refine wpAnyH_done (by kernel_rfl) ?_ _
    refine then_normal (wp_condT (he := he29) rfl (wp_seq ?_))
    refine wh_begin (by kernel_rfl) hm12 [(1, ⟨true, b1, 86, #[zI 0, zI 0, zI 0, zI 0, zI 0, zI 0]⟩), (2, ⟨true, b2, 9, wqA⟩)] ⟨rfl, rfl, trivial⟩ (fun w13 hm13 => ?_)
    refine wtb (fuel := 12) [1] he29 hm13 [(45, zS g ws.length c)] fun a30 he30 => ?_
    refine tv (fuel := 11) 2 rfl he30 hm13 (.pointer (some ⟨g, 0 + 0 * 1, none⟩)) (fun wS hmS => rn_indexA _ _ _ rfl _ _ (.pointer (some ⟨g, 0 + 0 * 1, none⟩)) (he30.tmp 45 _ rfl) rfl (ixS 9 1 (by kernel_rfl) (fun w => by kernel_rfl) (g) (0) (ws.length) (c) (0) (by omega) _)) fun a31 he31 => ?_
    refine tv (fuel := 10) 3 rfl he31 hm13 (.string (ws.getD 0 ⟨#[]⟩)) (fun wS hmS => rn_row1 hmS hR (by simp) (0) (by omega) 0 (by omega) _ _ rfl (he31.tmp 46 _ rfl) one9 _ rfl) fun a32 he32 => ?_
    refine wtb (fuel := 9) [4] he32 hm13 [(48, zS g ws.length c)] fun a33 he33 => ?_
    refine tv (fuel := 8) 5 rfl he33 hm13 (.pointer (some ⟨g, 0 + 0 * 1, none⟩)) (fun wS hmS => rn_indexA _ _ _ rfl _ _ (.pointer (some ⟨g, 0 + 0 * 1, none⟩)) (he33.tmp 48 _ rfl) rfl (ixS 9 1 (by kernel_rfl) (fun w => by kernel_rfl) (g) (0) (ws.length) (c) (0) (by omega) _)) fun a34 he34 => ?_
    refine tv (fuel := 7) 6 rfl he34 hm13 (.string (ws.getD 0 ⟨#[]⟩)) (fun wS hmS => rn_row1 hmS hR (by simp) (0) (by omega) 0 (by omega) _ _ rfl (he34.tmp 49 _ rfl) one9 _ rfl) fun a35 he35 => ?_
    refine tv (fuel := 6) 7 rfl he35 hm13 (zN ((ws.getD 0 ⟨#[]⟩).size)) (fun wS hmS => rn_builtin _ _ _ rfl #[.string (ws.getD 0 ⟨#[]⟩)] (map1 (he35.tmp 50 _ rfl)) (.int .i64 ((((ws.getD 0 ⟨#[]⟩).size : Nat) : Int))) (by kernel_rfl)) fun a36 he36 => ?_
    refine tv (fuel := 5) 8 rfl he36 hm13 (zN (((ws.getD 0 ⟨#[]⟩).size) - 1)) (fun wS hmS => rn_bin _ _ _ _ _ rfl .i64 _ _ (he36.tmp 51 _ rfl) rfl (.int .i64 (IntKind.wrap .i64 ((((ws.getD 0 ⟨#[]⟩).size : Nat) : Int) - 1))) _ rfl (subN (i := (ws.getD 0 ⟨#[]⟩).size) (c := 1) .i64 (by omega) (by rw [IntKind.wrap_i64]; omega))) fun a37 he37 => ?_
    refine tv (fuel := 4) 9 rfl he37 hm13 (.string ((ws.getD 0 ⟨#[]⟩).extract (0) (((ws.getD 0 ⟨#[]⟩).size) - 1))) (fun wS hmS => rn_sslice _ (by kernel_rfl) _ _ _ rfl _ (0) (((ws.getD 0 ⟨#[]⟩).size) - 1) (he37.tmp 47 _ rfl) (Or.inr ⟨rfl, rfl⟩) (Or.inl (by simp only [Option.map_some]; exact congrArg some (he37.tmp 52 _ rfl))) (by omega) (by omega)) fun a38 he38 => ?_
    refine tn (fuel := 3) 0 rfl he38 hm13 4 (c_wqs _) (fun _ _ => ⟨rfl, rfl, trivial⟩) (fun _ _ => ⟨rfl, rfl, trivial⟩) fun x4 b4 a39 w14 hx4 he39 hm14 => ?_
    refine tq (fuel := 2) 10 rfl he39 hm14 (find_q wqL _ 21 rfl (by omega) ((ws.getD 0 ⟨#[]⟩).extract (0) (((ws.getD 0 ⟨#[]⟩).size) - 1)) _ (wq_sl (hm14.bx 4 _ _ _ _ rfl))) fun d4 a40 w15 hd4 he40 hm15 => ?_
    refine wtd (fuel := 1) [(11, 0)] he40 hm15 [(55, zP b3 0)] [] vl0 fun a41 he41 => ?_
    refine ts (fuel := 0) 12 rfl he41 hm15 3 one3.sz (0) (.int .i64 (d4)) (#[zI d4, zI 0, zI (-1), zI 0, zI 0, zI z]) ⟨rfl, rfl, rfl, trivial⟩ (hin := (by simp)) (hA := (by kernel_rfl)) fun w16 hm16 => ?_
    refine wpAnyH_done (by kernel_rfl) ?_ _
    refine then_normal (wp_region_lit ?_)
    refine wm [0, 0, 5] he41 hm16 [(57, zP b3 5), (56, zN k)] [(3, zE b3 86 (#[zI d4, zI 0, zI (-1), zI 0, zI 0, zN k]))] [b3] vl0 fun a42 w17 he42 hm17 => ?_
    refine wpList_nil (in_normal (then_normal (wp_region_lit ?_)))
    refine wb 1 he42 [(26, zN k)] fun a43 he43 => ?_
    refine kv he43 (zN (k * 2)) (rn_bin _ _ _ _ _ rfl .i64 _ _ (he43.tmp 26 _ rfl) rfl (.int .i64 (IntKind.wrap .i64 (((k : Nat) : Int) * 2))) _ rfl (mulN (i := k) (c := 2) (by omega))) fun a44 he44 => ?_
    refine wb 1 he44 [(4, zN (k * 2))] fun a45 he45 => ?_
    refine wpList_nil ?_
    exact ⟨8 - (k * 2), by omega, k * 2, d4, ((k : Nat) : Int), rfl, (by omega), he45.sb, hm17.sb⟩
  ·
   have hshd2 := str_size hd2
   have hd2p : (ws.getD 0 ⟨#[]⟩).toList = (z1).toList := by simpa using hd2
   refine tv (fuel := 9) 6 rfl he20 hm11 (zT) (fun wS hmS => rn_seq _ (by simp) _ _ _ _ rfl _ _ (he20.tmp 30 _ rfl) (he20.tmp 33 _ rfl) _ (by first | (simp [hd2]; done) | rw [if_pos rfl, hd2] | rw [if_neg (by decide), hd2])) fun a21 he21 => ?_
   refine wtb (fuel := 4) [7, 8, 9, 10, 11] he21 hm11 [(39, zU), (38, zU), (37, zU), (36, zU), (35, zT)] fun a22 he22 => ?_
   refine tx (fuel := 3) 12 rfl he22 hm11 fun a23 he23 => ?_
   refine wtb (fuel := 0) [13, 14, 15] he23 hm11 [(43, zT), (42, zU), (41, zU)] fun a24 he24 => ?_
   refine wpAnyH_done (by kernel_rfl) ?_ _
   refine then_normal (wp_condT (he := he24) rfl (wp_seq ?_))
   refine wh_begin (by kernel_rfl) hm11 [(1, ⟨true, b1, 86, #[zI 0, zI 0, zI 0, zI 0, zI 0, zI 0]⟩), (2, ⟨true, b2, 9, wqA⟩)] ⟨rfl, rfl, trivial⟩ (fun w12 hm12 => ?_)
   refine wtb (fuel := 12) [1] he24 hm12 [(45, zS g ws.length c)] fun a25 he25 => ?_
   refine tv (fuel := 11) 2 rfl he25 hm12 (.pointer (some ⟨g, 0 + 0 * 1, none⟩)) (fun wS hmS => rn_indexA _ _ _ rfl _ _ (.pointer (some ⟨g, 0 + 0 * 1, none⟩)) (he25.tmp 45 _ rfl) rfl (ixS 9 1 (by kernel_rfl) (fun w => by kernel_rfl) (g) (0) (ws.length) (c) (0) (by omega) _)) fun a26 he26 => ?_
   refine tv (fuel := 10) 3 rfl he26 hm12 (.string (ws.getD 0 ⟨#[]⟩)) (fun wS hmS => rn_row1 hmS hR (by simp) (0) (by omega) 0 (by omega) _ _ rfl (he26.tmp 46 _ rfl) one9 _ rfl) fun a27 he27 => ?_
   refine wtb (fuel := 9) [4] he27 hm12 [(48, zS g ws.length c)] fun a28 he28 => ?_
   refine tv (fuel := 8) 5 rfl he28 hm12 (.pointer (some ⟨g, 0 + 0 * 1, none⟩)) (fun wS hmS => rn_indexA _ _ _ rfl _ _ (.pointer (some ⟨g, 0 + 0 * 1, none⟩)) (he28.tmp 48 _ rfl) rfl (ixS 9 1 (by kernel_rfl) (fun w => by kernel_rfl) (g) (0) (ws.length) (c) (0) (by omega) _)) fun a29 he29 => ?_
   refine tv (fuel := 7) 6 rfl he29 hm12 (.string (ws.getD 0 ⟨#[]⟩)) (fun wS hmS => rn_row1 hmS hR (by simp) (0) (by omega) 0 (by omega) _ _ rfl (he29.tmp 49 _ rfl) one9 _ rfl) fun a30 he30 => ?_
   refine tv (fuel := 6) 7 rfl he30 hm12 (zN ((ws.getD 0 ⟨#[]⟩).size)) (fun wS hmS => rn_builtin _ _ _ rfl #[.string (ws.getD 0 ⟨#[]⟩)] (map1 (he30.tmp 50 _ rfl)) (.int .i64 ((((ws.getD 0 ⟨#[]⟩).size : Nat) : Int))) (by kernel_rfl)) fun a31 he31 => ?_
   refine tv (fuel := 5) 8 rfl he31 hm12 (zN (((ws.getD 0 ⟨#[]⟩).size) - 1)) (fun wS hmS => rn_bin _ _ _ _ _ rfl .i64 _ _ (he31.tmp 51 _ rfl) rfl (.int .i64 (IntKind.wrap .i64 ((((ws.getD 0 ⟨#[]⟩).size : Nat) : Int) - 1))) _ rfl (subN (i := (ws.getD 0 ⟨#[]⟩).size) (c := 1) .i64 (by omega) (by rw [IntKind.wrap_i64]; omega))) fun a32 he32 => ?_
   refine tv (fuel := 4) 9 rfl he32 hm12 (.string ((ws.getD 0 ⟨#[]⟩).extract (0) (((ws.getD 0 ⟨#[]⟩).size) - 1))) (fun wS hmS => rn_sslice _ (by kernel_rfl) _ _ _ rfl _ (0) (((ws.getD 0 ⟨#[]⟩).size) - 1) (he32.tmp 47 _ rfl) (Or.inr ⟨rfl, rfl⟩) (Or.inl (by simp only [Option.map_some]; exact congrArg some (he32.tmp 52 _ rfl))) (by omega) (by omega)) fun a33 he33 => ?_
   refine tn (fuel := 3) 0 rfl he33 hm12 4 (c_wqs _) (fun _ _ => ⟨rfl, rfl, trivial⟩) (fun _ _ => ⟨rfl, rfl, trivial⟩) fun x4 b4 a34 w13 hx4 he34 hm13 => ?_
   refine tq (fuel := 2) 10 rfl he34 hm13 (find_q wqL _ 21 rfl (by omega) ((ws.getD 0 ⟨#[]⟩).extract (0) (((ws.getD 0 ⟨#[]⟩).size) - 1)) _ (wq_sl (hm13.bx 4 _ _ _ _ rfl))) fun d3 a35 w14 hd3 he35 hm14 => ?_
   refine wtd (fuel := 1) [(11, 0)] he35 hm14 [(55, zP b3 0)] [] vl0 fun a36 he36 => ?_
   refine ts (fuel := 0) 12 rfl he36 hm14 3 one3.sz (0) (.int .i64 (d3)) (#[zI d3, zI 0, zI (-1), zI 0, zI 0, zI z]) ⟨rfl, rfl, rfl, trivial⟩ (hin := (by simp)) (hA := (by kernel_rfl)) fun w15 hm15 => ?_
   refine wpAnyH_done (by kernel_rfl) ?_ _
   refine then_normal (wp_region_lit ?_)
   refine wm [0, 0, 5] he36 hm15 [(57, zP b3 5), (56, zN k)] [(3, zE b3 86 (#[zI d3, zI 0, zI (-1), zI 0, zI 0, zN k]))] [b3] vl0 fun a37 w16 he37 hm16 => ?_
   refine wpList_nil (in_normal (then_normal (wp_region_lit ?_)))
   refine wb 1 he37 [(26, zN k)] fun a38 he38 => ?_
   refine kv he38 (zN (k * 2)) (rn_bin _ _ _ _ _ rfl .i64 _ _ (he38.tmp 26 _ rfl) rfl (.int .i64 (IntKind.wrap .i64 (((k : Nat) : Int) * 2))) _ rfl (mulN (i := k) (c := 2) (by omega))) fun a39 he39 => ?_
   refine wb 1 he39 [(4, zN (k * 2))] fun a40 he40 => ?_
   refine wpList_nil ?_
   exact ⟨8 - (k * 2), by omega, k * 2, d3, ((k : Nat) : Int), rfl, (by omega), he40.sb, hm16.sb⟩
end Go.Proofs.Ytkaekiodjjhjkaa
