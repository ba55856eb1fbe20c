/- TableLook: the leaves. -/
import Derived.RangeFuncNested
import Derived.RangeFuncBound
import Derived.RangeFuncCalls
import Derived.RangeFuncLeaves
import Derived.RangeFuncBox
import Derived.Shelf.Abstract
import Derived.WalkKit
import Derived.OwnWalkIn
import Derived.TacticsInMore
import Derived.LoopNIn
import Derived.LoopIn
import Derived.Test.YtkaekiodjjhjkaaQGrp7
import Derived.Deep.RegionHeld3
namespace Go.Proofs.Ytkaekiodjjhjkaa.G
open Go.RowKit
set_option linter.unusedSimpArgs false
set_option linter.unusedVariables false

open Classical in
noncomputable def okB (k s r : Int) (ks : List Int) (vs : List ByteArray) : Bool := decide (OkP k s r ks vs)
theorem okB_true {k s r : Int} {ks : List Int} {vs : List ByteArray} : okB k s r ks vs = true ↔ OkP k s r ks vs := by simp [okB]
theorem Ans.okB {e : Ending} {k s r : Int} {ks : List Int} {vs : List ByteArray} (h : Ans e (OkP k s r ks vs)) : e = .returned (.bool (okB k s r ks vs)) := by
  obtain ⟨q, rfl, hq⟩ := h
  exact ret_bool (by rw [Bool.eq_iff_iff, hq, okB_true])
theorem f28b (k s r : Int) (ks : List Int) (vs : List ByteArray) (a b : Option Addr) (c d : Nat) (w : World) (hA : ArgI w a ks) (hB : ArgS w b vs) :
    Calls Try.prog 85 #[.agg #[.int .i64 k, .int .i64 s, .int .i64 r, .slice a ks.length c, .slice b vs.length d]] w fun e w' => e = .returned (.bool (okB k s r ks vs)) ∧ Below w.heap.size w w' :=
  (f28 k s r ks vs a b c d w hA hB).mono fun _ _ h => ⟨Ans.okB h.1, h.2⟩
/-- Where a key stands. -/
def atI (ks : List Int) (key : Int) : Int := match ks.findIdx? (fun x => x == key) with
  | some i => i
  | none => -1
theorem atI_none {ks : List Int} {key : Int} (h : ∀ j (h : j < ks.length), (ks[j] == key) = false) : atI ks key = -1 := by
  unfold atI
  rw [List.findIdx?_eq_none_iff.2 (by intro x hx; obtain ⟨j, hj, rfl⟩ := List.getElem_of_mem hx; exact h j hj)]
theorem atI_some {ks : List Int} {key : Int} {i : Nat} (hi : i < ks.length) (he : (ks[i] == key) = true) (h : ∀ j (h : j < ks.length), j < i → (ks[j] == key) = false) : atI ks key = i := by
  unfold atI
  rw [List.findIdx?_eq_some_iff_getElem.2 ⟨hi, he, fun j hj => by rw [h j (by omega) hj]; simp⟩]
theorem atI_cases (ks : List Int) (key : Int) : (atI ks key = -1 ∧ ∀ j (h : j < ks.length), (ks[j] == key) = false) ∨ ∃ i, ∃ h : i < ks.length, atI ks key = i ∧ (ks[i] == key) = true ∧ ∀ j (h : j < ks.length), j < i → (ks[j] == key) = false := by
  by_cases hall : ∀ j (h : j < ks.length), (ks[j] == key) = false
  · exact .inl ⟨atI_none hall, hall⟩
  · right
    cases hf : ks.findIdx? (fun x => x == key) with
    | none =>
      rw [List.findIdx?_eq_none_iff] at hf
      exact absurd (fun j hj => hf _ (List.getElem_mem hj)) hall
    | some i =>
      obtain ⟨hi, he, hn⟩ := List.findIdx?_eq_some_iff_getElem.1 hf
      exact ⟨i, hi, by unfold atI; rw [hf], he, fun j hj hji => by have := hn j hji; simpa using this⟩
set_option maxRecDepth 100000 in
set_option maxHeartbeats 2000000 in
theorem f45 (k s r : Int) (ks : List Int) (vs : List ByteArray) (a b : Option Addr) (c d : Nat) (key : Int) (w : World) (hA : ArgI w a ks) (hn : ks.length ≤ 1048576) :
    Calls Try.prog 102 #[.agg #[.int .i64 k, .int .i64 s, .int .i64 r, .slice a ks.length c, .slice b vs.length d], .int .i64 key] w fun e w' => e = .returned (.int .i64 (atI ks key)) ∧ Below w.heap.size w w' := by
  have hcA : ∀ X, Below w.heap.size w (w.alloc X) := fun X => (Below.refl _ _).alloc (Nat.le_refl _) _
  go_enter Try.func102, Try.ntmps102
  go_wp2_with fail
  go_loop [5] (fun i => ∃ n : Nat, n ≤ ks.length ∧ i = .int .i64 n ∧ ∀ j (h : j < ks.length), j < n → (ks[j] == key) = false) (fun i => ks.length - (intOf i).toNat)
  case atStart => exact ⟨0, Nat.zero_le _, rfl, fun _ _ h => absurd h (by omega)⟩
  case round =>
    obtain ⟨n, hn, rfl, hd⟩ := hrel
    have HD : Hid (∀ j (h : j < ks.length), j < n → (ks[j] == key) = false) := hd
    clear hd
    by_cases hlt : n < ks.length
    · have hlt' : (n : Int) < (ks.length : Int) := by omega
      obtain ⟨b2, p2, rfl, hb2, hval⟩ := hA.at n hlt
      obtain ⟨x, hx⟩ : ∃ x, x = ks[n] := ⟨_, rfl⟩
      rw [← hx] at hval
      have HX : Hid _ := hx
      clear hx
      cases hxe : (x == key)
      · go_wp2_with fail
        go_round
        case rel =>
          refine ⟨n + 1, by omega, by go_num, fun j h hj => ?_⟩
          by_cases e : j = n
          · subst e; rw [← HX.out]; exact hxe
          · exact HD.out j h (by omega)
        case measure => simp [intOf]; omega
      · go_wp2_with fail
        go_ret
        exact ⟨ret_i64 (atI_some hlt (by rw [← HX.out]; exact hxe) HD.out).symm, hcA _⟩
    · obtain rfl : n = ks.length := by omega
      go_wp2_with fail
      go_ret
      exact ⟨ret_i64 (atI_none fun j h => HD.out j h h).symm, hcA _⟩

/-! pairsOf -/
theorem own_below {w w' : World} {base e size : Nat} {v : Value} {n : Nat} {cs : List Value} (h : w.ownsRow base e size v n cs) (hb : Below w.heap.size w w') : w'.ownsRow base e size v n cs :=
  h.kept (row := none) ⟨hb.os, hb.tape, hb.output, hb.size, fun k hk _ => hb.block k hk⟩ (by cases v.ownBlock <;> simp)
theorem own_base {w : World} {base e size : Nat} {v : Value} {n : Nat} {cs : List Value} (h : w.ownsRow base e size v n cs) : ∀ k, v.ownBlock = some k → base ≤ k := by
  intro k hk
  rcases h.2 with ⟨rfl, _⟩ | ⟨g, cap, cur, rfl, hb, _⟩
  · simp [Value.ownBlock] at hk
  · simp [Value.ownBlock] at hk; omega
theorem own_mono {w : World} {base base' e size : Nat} {v : Value} {n : Nat} {cs : List Value} (h : w.ownsRow base e size v n cs) (hb : base' ≤ base) : w.ownsRow base' e size v n cs := by
  refine ⟨h.1, h.2.imp id ?_⟩
  rintro ⟨g, cap, cur, h1, h2, h3⟩
  exact ⟨g, cap, cur, h1, by omega, h3⟩
end Go.Proofs.Ytkaekiodjjhjkaa.G
