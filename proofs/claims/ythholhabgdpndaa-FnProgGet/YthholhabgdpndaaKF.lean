/- Programs that may be none; the draw of one. -/
import Derived.Test.YthholhabgdpndaaKP
import Derived.Test.YthholhabgdpndaaForm2
import Derived.Test.YthholhabgdpndaaPPut
import Derived.Test.YthholhabgdpndaaToS2
import Derived.Test.YthholhabgdpndaaPGet2
namespace Go.Proofs.Ythholhabgdpndaa
open Go.RowKit
set_option linter.unusedVariables false
set_option linter.unusedSimpArgs false

set_option maxRecDepth 100000 in
set_option maxHeartbeats 4000000 in
theorem e36z (a : Option Addr) (cap : Nat) (w : World) :
    Calls Try.prog 38 #[.slice a 0 cap] w fun e w' => e = .returned (.int .i64 4) ∧ Below w.heap.size w w' := by
  go_enter Try.func38, Try.ntmps38
  go_wp2_with fail
  refine wp_loop_rounds 1 ?_
  rw [rounds_succ]
  go_wp2_with fail
  go_ret
  exact ⟨rfl, Below.refl _ _⟩
set_option maxRecDepth 100000 in
set_option maxHeartbeats 4000000 in
theorem e18z (a : Option Addr) (cap : Nat) (w : World) :
    Calls Try.prog 25 #[.slice a 0 cap] w fun e w' => e = .returned (.int .i64 4) ∧ Below w.heap.size w w' := by
  go_enter Try.func25, Try.ntmps25
  go_wp2_with fail
  refine (e36z _ _ _).mono ?_
  rintro e w1 ⟨rfl, hb1⟩
  go_wp2_with fail
  go_ret
  exact ⟨rfl, hb1⟩
set_option maxRecDepth 100000 in
set_option maxHeartbeats 4000000 in
theorem e20z (a : Option Addr) (cap : Nat) (w : World) :
    Calls Try.prog 19 #[.slice a 0 cap] w fun e w' => e = .returned (.int .i64 4) ∧ Below w.heap.size w w' := by
  go_enter Try.func19, Try.ntmps19
  go_wp2_with fail
  refine wp_loop_rounds 1 ?_
  rw [rounds_succ]
  go_wp2_with fail
  go_ret
  exact ⟨rfl, Below.refl _ _⟩
set_option maxRecDepth 100000 in
set_option maxHeartbeats 4000000 in
theorem e22z (a : Option Addr) (cap : Nat) (w : World) :
    Calls Try.prog 18 #[.slice a 0 cap] w fun e w' => e = .returned (.string ⟨#[]⟩) ∧ Below w.heap.size w w' := by
  go_enter Try.func18, Try.ntmps18
  go_wp2_with fail
  refine (e36z _ _ _).mono ?_
  rintro e w1 ⟨rfl, hb1⟩
  go_wp2_with fail
  go_ret
  exact ⟨rfl, hb1⟩
set_option maxRecDepth 100000 in
set_option maxHeartbeats 4000000 in
theorem e23z (a : Option Addr) (cap : Nat) (w : World) :
    Calls Try.prog 17 #[.slice a 0 cap] w fun e w' => e = .returned (.string ⟨#[]⟩) ∧ Below w.heap.size w w' := by
  go_enter Try.func17, Try.ntmps17
  go_wp2_with fail
  refine (e20z _ _ _).mono ?_
  rintro e w1 ⟨rfl, hb1⟩
  go_wp2_with fail
  go_ret
  exact ⟨rfl, hb1⟩
theorem form_s (xs : List I6) (a : Option Addr) (cap : Nat) (w : World) (hr : ArgRow w a xs) (hn : xs.length ≤ 1048576) :
    Calls Try.prog 25 #[.slice a xs.length cap] w fun e w' => e = .returned (.int .i64 (formN xs)) ∧ Below w.heap.size w w' := by
  rcases hr with rfl | ⟨b, p, rfl, hlt, h⟩
  · exact e18z a cap w
  · exact f18 xs b p cap w h hn hlt
theorem form_i (xs : List I6) (a : Option Addr) (cap : Nat) (w : World) (hr : ArgRow w a xs) (hn : xs.length ≤ 1048576) :
    Calls Try.prog 19 #[.slice a xs.length cap] w fun e w' => e = .returned (.int .i64 (formN xs)) ∧ Below w.heap.size w w' := by
  rcases hr with rfl | ⟨b, p, rfl, hlt, h⟩
  · exact e20z a cap w
  · exact f20 xs b p cap w h hn hlt
theorem pput_s (xs : List I6) (a : Option Addr) (cap : Nat) (w : World) (hr : ArgRow w a xs) (hn : xs.length ≤ 1048576) :
    Calls Try.prog 18 #[.slice a xs.length cap] w fun e w' => e = .returned (.string (progS xs)) ∧ Below w.heap.size w w' := by
  rcases hr with rfl | ⟨b, p, rfl, hlt, h⟩
  · exact e22z a cap w
  · exact f22 xs b p cap w h hn hlt
theorem pput_i (xs : List I6) (a : Option Addr) (cap : Nat) (w : World) (hr : ArgRow w a xs) (hn : xs.length ≤ 1048576) :
    Calls Try.prog 17 #[.slice a xs.length cap] w fun e w' => e = .returned (.string (progS xs)) ∧ Below w.heap.size w w' := by
  rcases hr with rfl | ⟨b, p, rfl, hlt, h⟩
  · exact e23z a cap w
  · exact f23 xs b p cap w h hn hlt
/-- Some ops, perhaps none. -/
def AnM (w' : World) (e : Ending) : Prop := ∃ (xs : List I6) (a : Option Addr) (cap : Nat), e = .returned (.slice a xs.length cap) ∧ xs.length ≤ 49 ∧ ArgRow w' a xs
theorem own_argN {w : World} {base n c : Nat} {x : Option Addr} {xs : List I6} (h : w.ownsRow base 24 6 (.slice x n c) n (flat xs)) (hl : xs.length = n) : ArgRow w x xs := by
  subst hl
  rcases own_row h with ⟨h1, _⟩ | ⟨g, cap, e, _, h2, h3, _⟩
  · exact .inl h1
  · simp only [Value.slice.injEq] at e
    exact .inr ⟨g, 0, e.1, h2, h3⟩
theorem ArgRow.take {w : World} {x : Option Addr} {xs : List I6} (h : ArgRow w x xs) (m : Nat) : ArgRow w x (xs.take m) := by
  rcases h with rfl | ⟨b, p, e, h1, h2⟩
  · exact .inl (by simp)
  · refine .inr ⟨b, p, e, h1, fun k hk => ?_⟩
    have hk2 : k < xs.length := by rw [List.length_take] at hk; omega
    rw [List.getElem_take]
    exact h2 k hk2
set_option maxRecDepth 100000 in
set_option maxHeartbeats 4000000 in
theorem drawForm_w (w : World) (a : Option Addr) (len cap : Nat) (hc : len ≤ cap) (hs : Src w a len) (hl : cap < 2 ^ 63) :
    Calls Try.prog 24 #[.slice a len cap] w fun e w' => AnM w' e ∧ Below w.heap.size w w' := by
  obtain ⟨i0, hi, hz0, hz1, hz2⟩ := info_parts info25
  have HS := hid hs
  clear hs
  go_enter Try.func24, Try.ntmps24
  go_wp2_with fail
  refine (open_s w a len cap hc HS.out hl).mono ?_
  rintro e w1 ⟨rn, rfl, h1⟩
  have HO := hid h1
  clear h1 HS
  go_wp2_with fail
  refine (prog_k HO.out (by omega)).mono ?_
  rintro e w2 ⟨⟨xs0, x, n, c, rfl, hxl, hn1, hn2, hr⟩, q, hq, kk⟩
  have HR := hid hr
  have HD := hid kk
  have HL := hid hxl
  clear hr kk hxl HO
  obtain ⟨g, rfl⟩ := own_pos HR.out (by omega)
  have hnc := (own_cap HR.out).1
  have hn1' : (1 : Int) ≤ (n : Int) := by omega
  have hn2' : (n : Int) ≤ 41 := by omega
  go_wp2_with fail
  refine (pick_k HD.out.rs (by omega) 8 (by omega) (by omega)).mono ?_
  rintro e w3 ⟨m, rfl, hm, kk⟩
  replace HR := hid (row_kept (by decide) HD.out.rs kk HR.out)
  replace HD := hid (HD.out.draw kk)
  clear kk
  have hm0 : (0 : Int) ≤ (m : Int) := by omega
  generalize (m : Int) = y at *
  have hyc : y = 0 ∨ y = 1 ∨ y = 2 ∨ 2 < y := by omega
  rcases hyc with rfl | rfl | rfl | hy
  · have hw1 : IntKind.i64.wrap ((n : Int) - 1) = (n : Int) - 1 := by rw [IntKind.wrap_i64]; omega
    have ht1 : ((n : Int) - 1).toNat = n - 1 := by omega
    have hp1 : (0 : Int) ≤ (n : Int) - 1 := by omega
    have hp2 : (n : Int) - 1 ≤ (c : Int) := by omega
    have hc0 : ¬ c = 0 := by omega
    have hlx : (xs0.take (n - 1)).length = n - 1 := by have := HL.out; rw [List.length_take]; omega
    go_wp2_with fail
    go_ret
    exact ⟨⟨xs0.take (n - 1), some ⟨g, 0, none⟩, c, by rw [hlx]; rfl, by omega, (own_argN HR.out HL.out).take _⟩, HD.out.rs.bel⟩
  · go_wp2_with fail
    obtain ⟨rfl, -⟩ : xs0.length = n ∧ True := ⟨HL.out, trivial⟩
    go_loopw [4] (fun out wr => ∃ (xs : List I6) (q : Nat), wr.ownsRow w1.heap.size 24 6 out xs.length (flat xs) ∧ K3 w w1 wr w.heap.size a rn cap q ∧ 1 ≤ xs.length ∧ xs.length ≤ 49 ∧ q ≤ 1000 + xs.length) (fun out _ => 49 - lenOf out)
    case atStart => exact ⟨xs0, _, HR.out, HD.out, by omega, by omega, by omega⟩
    case round =>
      clear HR HD
      obtain ⟨xs, q, hr, hk, h4, h8, hq⟩ := hrel
      obtain ⟨a1, c1, rfl⟩ := own_slice hr
      have HR := hid hr
      have HD := hid hk
      clear hr hk
      have hl0 : (0 : Int) ≤ (xs.length : Int) := by omega
      go_wp2_with fail
      refine (pick_k HD.out.rs (by omega) 2 (by omega) (by omega)).mono ?_
      rintro e wp1 ⟨m2, rfl, hm2, kk⟩
      replace HR := hid (row_kept (by decide) HD.out.rs kk HR.out)
      replace HD := hid (HD.out.draw kk)
      clear kk
      have hm20 : (0 : Int) ≤ (m2 : Int) := by omega
      generalize (m2 : Int) = y2 at *
      by_cases hlt : (xs.length : Int) < 48 + y2
      · skip
        have lw : w1.heap.size ≤ wp1.heap.size := HD.out.kp.1
        go_wp2_with (first | (at_builtin; go_must (refine wpList_append_own _ rfl _ _ 32 rfl w1.heap.size 24 i0 (.agg #[.int .i64 0, .int .i64 0, .int .i64 0, .int .i64 0, .int .i64 0, .int .i64 0]) 6 48 Try.underlying32 hi hz0 hz1 hz2 rfl (by decide) _ _ _ rfl (World.ownsRow.alloc HR.out _) ⟨wp1.heap.size, 0, none⟩ 1 1 [.int .i64 20, .int .i64 0, .int .i64 (-1), .int .i64 0, .int .i64 0, .int .i64 0] rfl (by simp) (news6e wp1 20 0 (-1) 0 0 0 rfl) (by simp [Value.oneCell']) (by unfold maxLen; omega) (by omega) (by simp; omega) ?_)))
        intro v' wa hown hgrow _
        have hown' : wa.ownsRow w1.heap.size 24 6 v' (xs ++ [(⟨20, 0, (-1), 0, 0, 0⟩ : I6)]).length (flat (xs ++ [(⟨20, 0, (-1), 0, 0, 0⟩ : I6)])) := by rw [flat_snoc]; simpa using hown
        have kd := HD.out.belowN (((Below.refl _ _).alloc lw _).grown hgrow (by simp; omega) (own_base HR.out))
        obtain ⟨a9, c9, rfl⟩ := own_slice hown'
        have HR9 := hid hown'
        have HD9 := hid kd
        clear hown hown' hgrow kd
        go_wp2_with fail
        go_roundw
        case rel => exact ⟨xs ++ [(⟨20, 0, (-1), 0, 0, 0⟩ : I6)], _, HR9.out, HD9.out, by rw [List.length_append]; simp only [List.length_cons, List.length_nil]; omega, by rw [List.length_append]; simp only [List.length_cons, List.length_nil]; omega, by rw [List.length_append]; simp only [List.length_cons, List.length_nil]; omega⟩
        case measure => simp [lenOf]; omega
      · go_wp2_with fail
        go_ret
        exact ⟨⟨xs, _, _, rfl, by omega, own_argN HR.out rfl⟩, HD.out.rs.bel⟩
  · go_wp2_with fail
    go_ret
    exact ⟨⟨[], none, 0, rfl, by simp, .inl rfl⟩, HD.out.rs.bel⟩
  · have z0 : (y == 0) = false := by simp; omega
    have z1 : (y == 1) = false := by simp; omega
    have z2 : (y == 2) = false := by simp; omega
    go_wp2_with fail
    go_ret
    exact ⟨⟨xs0, _, c, by rw [HL.out]; rfl, by have := HL.out; omega, own_argN HR.out HL.out⟩, HD.out.rs.bel⟩
end Go.Proofs.Ythholhabgdpndaa
