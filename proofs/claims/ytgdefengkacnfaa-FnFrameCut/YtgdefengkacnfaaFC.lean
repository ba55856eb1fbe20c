/- Contracts of frames: bytes are cut. -/
import Derived.Test.YtgdefengkacnfaaFB
namespace Go.Proofs.Ytgdefengkacnfaa
open Go.RowKit
set_option linter.unusedVariables false
set_option linter.unusedSimpArgs false

def cutG : Nat → ByteArray → List ByteArray × ByteArray
  | 0, s => ([], s)
  | f + 1, s => match firstF s with
    | none => ([], s)
    | some x => (x :: (cutG f (s.extract (x.size + 1) s.size)).1, (cutG f (s.extract (x.size + 1) s.size)).2)
def cutF (s : ByteArray) : List ByteArray × ByteArray := cutG s.size s
/-- What is left does not begin with a length that cannot be. -/
def okR (r : ByteArray) : Bool := !decide (0 < r.size) || inB (hdN r) 1 12
theorem cutG_fuel : ∀ (f g : Nat) (s : ByteArray), s.size ≤ f → s.size ≤ g → cutG f s = cutG g s := by
  intro f
  induction f with
  | zero =>
    intro g s h1 _
    have hf : firstF s = none := by unfold firstF; rw [if_neg]; omega
    cases g with
    | zero => rfl
    | succ g => simp [cutG, hf]
  | succ f ih =>
    intro g s h1 h2
    cases g with
    | zero =>
      have hf : firstF s = none := by unfold firstF; rw [if_neg]; omega
      simp [cutG, hf]
    | succ g =>
      cases hf : firstF s with
      | none => simp [cutG, hf]
      | some x =>
        have := firstF_some hf
        have hz : (s.extract (x.size + 1) s.size).size = s.size - (x.size + 1) := by simp
        simp only [cutG, hf]
        rw [ih g _ (by omega) (by omega)]
theorem cut_none {s : ByteArray} (h : firstF s = none) : cutF s = ([], s) := by
  unfold cutF
  cases hz : s.size with
  | zero => rfl
  | succ n => simp [cutG, h]
theorem cut_some {s x : ByteArray} (h : firstF s = some x) : cutF s = (x :: (cutF (s.extract (x.size + 1) s.size)).1, (cutF (s.extract (x.size + 1) s.size)).2) := by
  have h1 := firstF_some h
  have hz : (s.extract (x.size + 1) s.size).size = s.size - (x.size + 1) := by simp
  unfold cutF
  have e : s.size = (s.size - 1) + 1 := by omega
  rw [e, cutG, h]
  simp only
  rw [← e, cutG_fuel (s.size - 1) (s.extract (x.size + 1) s.size).size _ (by omega) (by omega)]
def strSz : Value → Nat | .string s => s.size | _ => 0

/-- What FrameCut tells: a row of its own, what is left, and whether it can be. -/
def CutAns (w : World) (s : ByteArray) (e : Ending) (w' : World) : Prop :=
  ∃ (ws : List ByteArray) (r : ByteArray) (q : Bool) (v : Value), e = .returned (.tuple #[v, .string r, .bool q]) ∧
    (ws, r, q) = (if s.size ≤ 120 then ((cutF s).1, (cutF s).2, okR (cutF s).2) else ([], ⟨#[]⟩, false)) ∧ ws.length ≤ 120 ∧ w'.ownsRow w.heap.size 9 1 v ws.length (ws.map .string) ∧ Below w.heap.size w w'
theorem row_snoc {w1 : World} {B : Nat} {v' : Value} {ws : List ByteArray} {x : ByteArray} (h : w1.ownsRow B 9 1 v' (ws.length + 1) (ws.map Value.string ++ [.string x])) : w1.ownsRow B 9 1 v' (ws ++ [x]).length ((ws ++ [x]).map .string) := by
  simpa using h

set_option maxRecDepth 100000 in
set_option maxHeartbeats 4000000 in
theorem cut_c (s : ByteArray) (w : World) (hs : s.size ≤ 1048576) : Calls Try.prog 10 #[.string s] w (CutAns w s) := by
  obtain ⟨j0, hj, hy0, hy1, hy2⟩ := info_parts info9
  by_cases h0 : s.size ≤ 120
  · have h0' : (s.size : Int) ≤ 120 := by omega
    go_enter Try.func10, Try.ntmps10
    go_wp2_with fail
    refine (first_c s _ (by omega)).mono ?_
    rintro e w1 ⟨rfl, b1⟩
    go_wp2_with fail
    go_loopw [0, 5, 6, 7] (fun sv out fr q wr => ∃ (ws : List ByteArray) (r : ByteArray), sv = .string r ∧ fr = .string ((firstF r).getD ⟨#[]⟩) ∧ q = .bool (firstF r).isSome ∧ r.size + ws.length ≤ 120 ∧ (cutF s).1 = ws ++ (cutF r).1 ∧ (cutF s).2 = (cutF r).2 ∧ wr.ownsRow w.heap.size 9 1 out ws.length (ws.map .string) ∧ Below w.heap.size w wr) (fun sv _ _ _ _ => strSz sv)
    case atStart => exact ⟨[], s, rfl, rfl, rfl, by simpa using h0, by simp, rfl, World.ownsRow_nil _ _ _ _, b1⟩
    case round =>
      obtain ⟨ws, r, rfl, rfl, rfl, hl, hc1, hc2, hown, hbw⟩ := hrel
      have hsz := hbw.size
      obtain ⟨a0, cap0, rfl⟩ := own_slice hown
      have HO := hid hown
      have HC1 := hid hc1
      have HC2 := hid hc2
      have HW := hid hbw
      clear hown hc1 hc2 b1 hbw
      have hrI : (r.size : Int) ≤ 120 := by omega
      have hwI : (ws.length : Int) ≤ 120 := by omega
      cases hf : firstF r with
      | none =>
        have hcr := cut_none hf
        have HR : Hid ((ws, r, okR r) = (if s.size ≤ 120 then ((cutF s).1, (cutF s).2, okR (cutF s).2) else ([], ⟨#[]⟩, false))) := by
          apply hid; rw [if_pos h0, HC1.out, HC2.out, hcr]; simp
        clear hcr hf HC1 HC2
        by_cases hr0 : 0 < r.size
        · obtain ⟨b, e0, hb⟩ := hd_at hr0
          have l0 : (b.toNat : Int) ≤ 255 := by have := b.toNat_lt; omega
          have m0 : (0 : Int) ≤ (b.toNat : Int) := by omega
          have hne := list_ne hr0
          have hr0' : (0 : Int) < (r.size : Int) := by omega
          have hok : okR r = inB (b.toNat : Int) 1 12 := by simp [okR, hr0, hb]
          have HK := hid hok
          clear hok hb
          go_wp2_with fail
          refine (size_c _ _).mono ?_
          rintro e w2 ⟨rfl, hw⟩
          rw [hw]
          clear hw w2
          go_wp2_with fail
          refine bodyPost_ret (v := .tuple #[.slice a0 ws.length cap0, .string r, .bool (inB (b.toNat : Int) 1 12)]) (by simp [results, Try.results10, go_sem]) rfl ?_
          exact ⟨ws, r, okR r, _, by rw [HK.out], HR.out, by omega, HO.out, HW.out⟩
        · obtain rfl := empty_is hr0
          go_wp2_with fail
          refine bodyPost_ret (v := .tuple #[.slice a0 ws.length cap0, .string ⟨#[]⟩, .bool true]) (by simp [results, Try.results10, go_sem]) rfl ?_
          exact ⟨ws, ⟨#[]⟩, true, _, rfl, HR.out, by omega, HO.out, HW.out⟩
      | some x =>
        have hx := firstF_some hf
        have hcr := cut_some hf
        obtain ⟨x0, x1, x2, x3, xe, x4⟩ := hx
        clear xe
        rw [← x4] at x1 x2 x3
        clear x4
        obtain ⟨r2, hr2⟩ : ∃ y, y = r.extract (x.size + 1) r.size := ⟨_, rfl⟩
        have hz2 : r2.size = r.size - (x.size + 1) := by rw [hr2]; simp
        rw [← hr2] at hcr
        have HC3 : Hid ((cutF s).1 = ws ++ [x] ++ (cutF r2).1) := by rw [HC1.out, hcr]; show _ = _; simp
        have HC4 : Hid ((cutF s).2 = (cutF r2).2) := by rw [HC2.out, hcr]; exact rfl
        have hxI : (x.size : Int) + 1 ≤ (r.size : Int) := by omega
        have hx0 : (0 : Int) ≤ (x.size : Int) := by omega
        have hr2' : r.extract (1 + x.size) r.size = r2 := by rw [hr2, Nat.add_comm]
        clear hcr hf HC1 HC2 hr2 
        have HZ := hid hz2
        clear hz2
        go_wp2_with (first | (at_builtin; go_must (refine wpList_append_own _ rfl _ _ 25 rfl w.heap.size 9 j0 (.string ⟨#[]⟩) 1 16 Try.underlying25 hj hy0 hy1 hy2 rfl (by decide) _ _ _ rfl (World.ownsRow.alloc HO.out _) ⟨wr.heap.size, 0, none⟩ 1 1 [.string x] rfl (by simp) (one_newE _ _ _ _ rfl) (by simp [Value.oneCell']) (by unfold maxLen; omega) (by omega) (by simp; omega) ?_)))
        intro v' w3 hown3 hgrow _
        have hb3 : Below w.heap.size w w3 := (HW.out.alloc (by omega) _).grown hgrow (by simp; omega) (own_base HO.out)
        have H3 := hid (row_snoc hown3)
        have HB3 := hid hb3
        clear hown3 hgrow hb3
        go_wp2_with fail
        refine (first_c r2 _ (by have := HZ.out; omega)).mono ?_
        rintro e w4 ⟨rfl, b4⟩
        go_wp2_with fail
        go_roundw
        case rel => exact ⟨ws ++ [x], r2, rfl, rfl, rfl, by have := HZ.out; simp; omega, HC3.out, HC4.out, own_below H3.out b4, HB3.out.trans (b4.mono HB3.out.size)⟩
        case measure => have := HZ.out; simp [strSz]; omega
  · have h0' : (120 : Int) < (s.size : Int) := by omega
    go_enter Try.func10, Try.ntmps10
    go_wp2_with fail
    refine bodyPost_ret (v := .tuple #[.slice none 0 0, .string ⟨#[]⟩, .bool false]) (by simp [results, Try.results10, go_sem]) rfl ?_
    exact ⟨[], ⟨#[]⟩, false, _, rfl, by rw [if_neg h0], by simp, World.ownsRow_nil _ _ _ _, Below.refl _ _⟩
end Go.Proofs.Ytgdefengkacnfaa
