/- Leaves, rows of integers and of texts, and how an argument of these kinds lies in memory. -/
import Derived.Test.YtghcknbpipaghaaRows
import Derived.WalkKit
import Derived.WalkSpells
import Derived.WalkLawsBesides
import Derived.BigQuiet
import Derived.Deep.QuietTactic
namespace Go.Proofs.Ytghcknbpipaghaa
open Go.RowKit
set_option linter.unusedSimpArgs false

theorem ret_bool {a b : Bool} (h : a = b) : Ending.returned (.bool a) = .returned (.bool b) := by rw [h]
theorem ret_i64 {a b : Int} (h : a = b) : Ending.returned (.int .i64 a) = .returned (.int .i64 b) := by rw [h]
theorem bcell {W w1 : World} (hb : Below W.heap.size W w1) : (∀ b o, b < W.heap.size → w1.cell? ⟨b, o, none⟩ = W.cell? ⟨b, o, none⟩) ∧ (∀ b o, b < W.heap.size → w1.frozen? ⟨b, o, none⟩ = W.frozen? ⟨b, o, none⟩) :=
  ⟨fun b o h => hb.cell (p := ⟨b, o, none⟩) h, fun b o h => hb.frozen (p := ⟨b, o, none⟩) h⟩

def inB (n a b : Int) : Bool := decide (a ≤ n) && decide (n ≤ b)
def shapeB (k s r : Int) : Bool := inB k 1 2 && inB s 1 8 && inB r 1 8

set_option maxHeartbeats 400000 in
theorem f36 (n a b : Int) (w : World) :
    Calls Try.prog 24 #[.int .i64 n, .int .i64 a, .int .i64 b] w fun e w' => e = .returned (.bool (inB n a b)) ∧ w' = w := by
  go_enter Try.func24, Try.ntmps24
  go_wp2
  all_goals (go_ret; exact ⟨ret_bool (by rw [Bool.eq_iff_iff]; simp [inB]; omega), rfl⟩)
set_option maxHeartbeats 400000 in
theorem f48 (w : World) : Calls Try.prog 25 #[] w fun e w' => e = .returned (.int .i64 4294967295) ∧ w' = w := by
  go_enter Try.func25, Try.ntmps25
  go_wp2
  go_ret
  exact ⟨rfl, rfl⟩
set_option maxHeartbeats 400000 in
theorem f56 (n : Int) (w : World) :
    Calls Try.prog 34 #[.int .i64 n] w fun e w' => e = .returned (.bool (inB n 0 4294967295)) ∧ w' = w := by
  go_enter Try.func34, Try.ntmps34
  go_wp2
  all_goals (go_ret; exact ⟨ret_bool (by rw [Bool.eq_iff_iff]; simp [inB]; omega), rfl⟩)
set_option maxHeartbeats 1000000 in
theorem f31 (k s r : Int) (w : World) :
    Calls Try.prog 48 #[.int .i64 k, .int .i64 s, .int .i64 r] w fun e w' => e = .returned (.bool (shapeB k s r)) ∧ w' = w := by
  go_enter Try.func48, Try.ntmps48
  go_wp2
  all_goals (go_ret; refine ⟨ret_bool ?_, rfl⟩; rw [Bool.eq_iff_iff]; simp [shapeB, inB] at *; omega)

def IntRow (w : World) (b p : Nat) (ks : List Int) : Prop := ∀ k (h : k < ks.length), w.cell? ⟨b, p + k, none⟩ = some (.int .i64 ks[k])
def StrRow (w : World) (b p : Nat) (ss : List ByteArray) : Prop := ∀ k (h : k < ss.length), w.cell? ⟨b, p + k, none⟩ = some (.string ss[k])
theorem IntRow.below {w w' : World} {b p B : Nat} {xs : List Int} (h : IntRow w b p xs) (hb : Below B w w') (hB : b < B) : IntRow w' b p xs := fun k hk => (hb.cell hB).trans (h k hk)
theorem StrRow.below {w w' : World} {b p B : Nat} {xs : List ByteArray} (h : StrRow w b p xs) (hb : Below B w w') (hB : b < B) : StrRow w' b p xs := fun k hk => (hb.cell hB).trans (h k hk)
def ArgI (w : World) (a : Option Addr) (xs : List Int) : Prop := xs = [] ∨ ∃ b p, a = some ⟨b, p, none⟩ ∧ b < w.heap.size ∧ IntRow w b p xs
def ArgS (w : World) (a : Option Addr) (xs : List ByteArray) : Prop := xs = [] ∨ ∃ b p, a = some ⟨b, p, none⟩ ∧ b < w.heap.size ∧ StrRow w b p xs
theorem ArgI.below {w w' : World} {a : Option Addr} {xs : List Int} {B : Nat} (h : ArgI w a xs) (hb : Below B w w') (hB : w.heap.size ≤ B) : ArgI w' a xs := by
  rcases h with h | ⟨b, p, rfl, hlt, hr⟩
  · exact .inl h
  · exact .inr ⟨b, p, rfl, by have := hb.size; omega, hr.below hb (by omega)⟩
theorem ArgS.below {w w' : World} {a : Option Addr} {xs : List ByteArray} {B : Nat} (h : ArgS w a xs) (hb : Below B w w') (hB : w.heap.size ≤ B) : ArgS w' a xs := by
  rcases h with h | ⟨b, p, rfl, hlt, hr⟩
  · exact .inl h
  · exact .inr ⟨b, p, rfl, by have := hb.size; omega, hr.below hb (by omega)⟩
/-- The cell that stands at place k. -/
theorem ArgI.at {w : World} {a : Option Addr} {xs : List Int} (h : ArgI w a xs) (k : Nat) (hk : k < xs.length) : ∃ b p, a = some ⟨b, p, none⟩ ∧ b < w.heap.size ∧ w.cell? ⟨b, p + k, none⟩ = some (.int .i64 xs[k]) := by
  rcases h with rfl | ⟨b, p, rfl, hlt, hr⟩
  · simp at hk
  · exact ⟨b, p, rfl, hlt, hr k hk⟩
theorem ArgS.at {w : World} {a : Option Addr} {xs : List ByteArray} (h : ArgS w a xs) (k : Nat) (hk : k < xs.length) : ∃ b p, a = some ⟨b, p, none⟩ ∧ b < w.heap.size ∧ w.cell? ⟨b, p + k, none⟩ = some (.string xs[k]) := by
  rcases h with rfl | ⟨b, p, rfl, hlt, hr⟩
  · simp at hk
  · exact ⟨b, p, rfl, hlt, hr k hk⟩

/-! sizes -/
set_option maxHeartbeats 1000000 in
theorem f26 (a : Option Addr) (n cap : Nat) (w : World) (hm : n ≤ maxLen) :
    Calls Try.prog 11 #[.slice a n cap, .int .i64 1048576] w fun e w' => (∃ r : Int, e = .returned (.int .i64 r) ∧ (r = -1 ∨ n ≤ 1048576 ∧ 0 ≤ r ∧ r ≤ 1048576)) ∧ w' = w := by
  unfold maxLen at hm
  by_cases h : (n : Int) ≤ 1048576
  · go_enter Try.func11, Try.ntmps11
    go_wp2
    go_ret
    exact ⟨⟨_, rfl, by omega⟩, rfl⟩
  · have h' : (1048576 : Int) < (n : Int) := by omega
    clear h
    go_enter Try.func11, Try.ntmps11
    go_wp2
    go_ret
    exact ⟨⟨_, rfl, by omega⟩, rfl⟩

set_option maxRecDepth 100000 in
set_option maxHeartbeats 2000000 in
theorem f27 (a : Option Addr) (ss : List ByteArray) (cap : Nat) (L : Int) (w : World) (h0 : 0 ≤ L) (hL : L ≤ 1048576) (hA : ArgS w a ss) (hm : ss.length ≤ maxLen) (hss : ∀ s ∈ ss, s.size ≤ maxLen) :
    Calls Try.prog 37 #[.slice a ss.length cap, .int .i64 L] w fun e w' => (∃ r : Int, e = .returned (.int .i64 r) ∧ (r = -1 ∨ ss.length ≤ 1048576 ∧ 0 ≤ r)) ∧ w' = w := by
  unfold maxLen at hm
  by_cases h : (ss.length : Int) ≤ L
  · go_enter Try.func37, Try.ntmps37
    go_wp2_with fail
    go_loop [1, 5] (fun l i => ∃ (k : Nat) (q : Int), k ≤ ss.length ∧ i = .int .i64 k ∧ l = .int .i64 q ∧ 0 ≤ q ∧ q ≤ 1048576) (fun _ i => ss.length - (intOf i).toNat)
    case atStart => exact ⟨0, _, Nat.zero_le _, rfl, rfl, by omega, by omega⟩
    case round =>
      obtain ⟨k, q, hk, rfl, rfl, hq0, hq1⟩ := hrel
      by_cases hlt : k < ss.length
      · have hlt' : (k : Int) < (ss.length : Int) := by omega
        obtain ⟨b, p, rfl, hb, hc⟩ := hA.at k hlt
        obtain ⟨x, hx⟩ : ∃ x, x = ss[k] := ⟨_, rfl⟩
        have hz : x.size ≤ maxLen := by rw [hx]; exact hss _ (List.getElem_mem _)
        unfold maxLen at hz
        rw [← hx] at hc
        clear hx
        by_cases hneg : q - (x.size : Int) < 0
        · go_wp2_with fail
          go_ret
          exact ⟨⟨_, rfl, by omega⟩, rfl⟩
        · have hneg' : 0 ≤ q - (x.size : Int) := by omega
          clear hneg
          go_wp2_with fail
          go_round
          case rel => exact ⟨k + 1, _, by omega, by go_num, rfl, by omega, by omega⟩
          case measure => simp [intOf]; omega
      · obtain rfl : k = ss.length := by omega
        go_wp2_with fail
        go_ret
        exact ⟨⟨_, rfl, by omega⟩, rfl⟩
  · have h' : L < (ss.length : Int) := by omega
    clear h
    go_enter Try.func37, Try.ntmps37
    go_wp2_with fail
    go_ret
    exact ⟨⟨_, rfl, by omega⟩, rfl⟩

end Go.Proofs.Ytghcknbpipaghaa
