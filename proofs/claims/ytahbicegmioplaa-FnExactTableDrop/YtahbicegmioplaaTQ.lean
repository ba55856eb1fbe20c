/- TableNext: of the specification. -/
import Derived.Test.YtahbicegmioplaaTM
namespace Go.Proofs.Ytahbicegmioplaa
open Go.RowKit
set_option linter.unusedSimpArgs false
set_option linter.unusedVariables false

def stepN (key best x : Int) : Int := if key < x ∧ (best < 0 ∨ x < best) then x else best
def bestN (ks : List Int) (key : Int) : Int := ks.foldl (stepN key) (-1)
noncomputable def nextT (k s r : Int) (ks : List Int) (vs : List ByteArray) (key : Int) : Int × Bool := if okB k s r ks vs = true then (bestN ks key, decide (0 ≤ bestN ks key)) else (-1, false)
theorem bestN_next {ks : List Int} {n : Nat} (key : Int) (h : n < ks.length) : bestN (ks.take (n + 1)) key = stepN key (bestN (ks.take n) key) ks[n] := by
  rw [List.take_succ_eq_append_getElem h, bestN, List.foldl_append]; rfl
theorem ret_twoI {x y : Int × Bool} (h : x = y) : Ending.returned (.tuple #[.int .i64 x.1, .bool x.2]) = .returned (.tuple #[.int .i64 y.1, .bool y.2]) := by rw [h]

set_option maxRecDepth 100000 in
set_option maxHeartbeats 4000000 in
theorem f24 (k s r : Int) (ks : List Int) (vs : List ByteArray) (a b : Option Addr) (c d : Nat) (key : Int) (w : World) (hA : ArgI w a ks) (hB : ArgS w b vs) (hkm : ks.length ≤ 1048576) (hvm : vs.length ≤ 1048576) :
    Calls Try.prog 25 #[.agg #[.int .i64 k, .int .i64 s, .int .i64 r, .slice a ks.length c, .slice b vs.length d], .int .i64 key] w fun e w' => e = .returned (.tuple #[.int .i64 (nextT k s r ks vs key).1, .bool (nextT k s r ks vs key).2]) ∧ Below w.heap.size w w' := by
  have hcA : ∀ X, Below w.heap.size w (w.alloc X) := fun X => (Below.refl _ _).alloc (Nat.le_refl _) _
  have HA : Hid _ := hA
  have HB : Hid _ := hB
  clear hA hB
  cases hok : okB k s r ks vs
  · go_enter Try.func25, Try.ntmps25
    go_wp2_with fail
    refine (f28b k s r ks vs a b c d _ (ArgI.below HA.out (hcA _) (Nat.le_refl _)) (ArgS.below HB.out (hcA _) (Nat.le_refl _))).mono ?_
    rw [hok]
    rintro e w1 ⟨rfl, hb1⟩
    go_wp2_with fail
    go_ret2
    exact ⟨ret_twoI (x := (-1, false)) (by unfold nextT; rw [hok]; rfl), (hcA _).trans (hb1.mono (by simp))⟩
  · go_enter Try.func25, Try.ntmps25
    go_wp2_with fail
    refine (f28b k s r ks vs a b c d _ (ArgI.below HA.out (hcA _) (Nat.le_refl _)) (ArgS.below HB.out (hcA _) (Nat.le_refl _))).mono ?_
    rw [hok]
    rintro e w1 ⟨rfl, hb1⟩
    obtain ⟨hc1, hf1⟩ := bcell hb1
    have z1 := hb1.size
    simp only [World.size_alloc] at z1
    have x1 : w.heap.size < w1.heap.size := by omega
    have c1 : Below w.heap.size w w1 := (hcA _).trans (hb1.mono (by simp))
    have hAw := ArgI.below HA.out c1 (Nat.le_refl _)
    go_wp2_with fail
    go_loop [6, 7] (fun bst i => ∃ n : Nat, n ≤ ks.length ∧ i = .int .i64 n ∧ bst = .int .i64 (bestN (ks.take n) key)) (fun _ i => ks.length - (intOf i).toNat)
    case atStart => exact ⟨0, Nat.zero_le _, rfl, rfl⟩
    case round =>
      obtain ⟨n, hn, rfl, rfl⟩ := hrel
      by_cases hlt : n < ks.length
      · have hlt' : (n : Int) < (ks.length : Int) := by omega
        obtain ⟨b2, p2, rfl, hb2, hval⟩ := hAw.at n hlt
        have hst := bestN_next key hlt
        obtain ⟨x, hx⟩ : ∃ x, x = ks[n] := ⟨_, rfl⟩
        rw [← hx] at hval hst
        obtain ⟨m, hm⟩ : ∃ m, m = bestN (ks.take n) key := ⟨_, rfl⟩
        rw [← hm] at hst ⊢
        have HS : Hid _ := hst
        clear hx hst hm
        have hP : (key < x ∧ (m < 0 ∨ 0 ≤ m ∧ x < m)) ∨ (x ≤ key) ∨ (key < x ∧ 0 ≤ m ∧ m ≤ x) := by omega
        rcases hP with ⟨h1, h2 | ⟨h2, h3⟩⟩ | h1 | ⟨h1, h2, h3⟩
        all_goals (
          go_wp2_with fail
          go_round
          case rel => exact ⟨n + 1, by omega, by go_num, by rw [HS.out]; unfold stepN; first | (rw [if_pos (by omega)]) | (rw [if_neg (by omega)])⟩
          case measure => simp [intOf]; omega)
      · obtain rfl : n = ks.length := by omega
        rw [List.take_length]
        obtain ⟨m, hm⟩ : ∃ m, m = bestN ks key := ⟨_, rfl⟩
        rw [← hm]
        have HM : Hid _ := hm
        clear hm
        go_wp2_with fail
        go_ret2
        exact ⟨ret_twoI (x := (m, decide (0 ≤ m))) (by unfold nextT; rw [hok, if_pos rfl, HM.out]), c1⟩

end Go.Proofs.Ytahbicegmioplaa
