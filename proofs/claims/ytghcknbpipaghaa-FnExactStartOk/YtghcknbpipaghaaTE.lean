/- TableOk of the program. -/
import Derived.Test.YtghcknbpipaghaaTD
namespace Go.Proofs.Ytghcknbpipaghaa
open Go.RowKit
set_option linter.unusedSimpArgs false

/-- The call answered a bool that says whether P holds. -/
def Ans (e : Ending) (P : Prop) : Prop := ∃ q : Bool, e = .returned (.bool q) ∧ (q = true ↔ P)
theorem Ans.no {P : Prop} (h : ¬ P) : Ans (.returned (.bool false)) P := ⟨false, rfl, by simp, fun hp => absurd hp h⟩
theorem Ans.yes {P : Prop} (h : P) : Ans (.returned (.bool true)) P := ⟨true, rfl, fun _ => h, fun _ => rfl⟩

set_option maxRecDepth 100000 in
set_option maxHeartbeats 2000000 in
theorem f61 (xs : List Int) (v : Int) (a : Option Addr) (cap : Nat) (w : World) (hA : ArgI w a xs) (hn : xs.length ≤ 1048576) :
    Calls Try.prog 58 #[.slice a xs.length cap, .int .i64 v] w fun e w' => (∃ q : Int, e = .returned (.int .i64 q) ∧ (0 ≤ q ↔ v ∈ xs)) ∧ w' = w := by
  go_enter Try.func58, Try.ntmps58
  go_wp2_with fail
  go_loop [8] (fun i => ∃ k : Nat, k ≤ xs.length ∧ i = .int .i64 k ∧ ∀ j (h : j < xs.length), j < k → v ≠ xs[j]) (fun i => xs.length - (intOf i).toNat)
  case atStart => exact ⟨0, Nat.zero_le _, rfl, fun _ _ h => absurd h (by omega)⟩
  case round =>
    obtain ⟨k, hk, rfl, hd⟩ := hrel
    have HD : Hid (∀ j (h : j < xs.length), j < k → v ≠ xs[j]) := hd
    clear hd
    by_cases hlt : k < xs.length
    · have hlt' : (k : Int) < (xs.length : Int) := by omega
      obtain ⟨b, p, rfl, hb, hc⟩ := hA.at k hlt
      obtain ⟨x, hx⟩ : ∃ x, x = xs[k] := ⟨_, rfl⟩
      rw [← hx] at hc
      have HX : Hid _ := hx
      clear hx
      cases hvx : (v == x)
      · go_wp2_with fail
        go_round
        case rel =>
          refine ⟨k + 1, by omega, by go_num, fun j h hj => ?_⟩
          by_cases e : j = k
          · subst e; rw [← HX.out]; simpa using hvx
          · exact HD.out j h (by omega)
        case measure => simp [intOf]; omega
      · go_wp2_with fail
        go_ret
        refine ⟨⟨_, rfl, fun _ => ?_, fun _ => by omega⟩, rfl⟩
        have : v = xs[k] := by rw [← HX.out]; simpa using hvx
        rw [this]; exact List.getElem_mem _
    · obtain rfl : k = xs.length := by omega
      go_wp2_with fail
      go_ret
      refine ⟨⟨_, rfl, fun h => absurd h (by omega), fun h => ?_⟩, rfl⟩
      obtain ⟨j, hj, e⟩ := List.getElem_of_mem h
      exact absurd e.symm (HD.out j hj hj)

set_option maxRecDepth 100000 in
set_option maxHeartbeats 2000000 in
theorem f57 (xs : List Int) (v : Int) (a : Option Addr) (cap : Nat) (w : World) (hA : ArgI w a xs) (hn : xs.length ≤ 1048576) :
    Calls Try.prog 56 #[.slice a xs.length cap, .int .i64 v] w fun e w' => e = .returned (.bool (decide (v ∈ xs))) ∧ w' = w := by
  go_enter Try.func56, Try.ntmps56
  go_wp2_with fail
  refine (f61 xs v _ _ _ hA hn).mono ?_
  rintro e w1 ⟨⟨q, rfl, hq⟩, rfl⟩
  have HQ : Hid _ := hq
  clear hq
  go_wp2_with fail
  go_ret
  exact ⟨ret_bool (by rw [Bool.eq_iff_iff]; simpa using HQ.out), rfl⟩

set_option maxRecDepth 100000 in
set_option maxHeartbeats 2000000 in
theorem f32 (xs : List Int) (a : Option Addr) (cap : Nat) (w : World) (hA : ArgI w a xs) (hn : xs.length ≤ 1048576) :
    Calls Try.prog 49 #[.slice a xs.length cap] w fun e w' => Ans e (∀ j (h : j < xs.length), xs[j] = j) ∧ w' = w := by
  go_enter Try.func49, Try.ntmps49
  go_wp2_with fail
  go_loop [7] (fun i => ∃ k : Nat, k ≤ xs.length ∧ i = .int .i64 k ∧ ∀ j (h : j < xs.length), j < k → xs[j] = j) (fun i => xs.length - (intOf i).toNat)
  case atStart => exact ⟨0, Nat.zero_le _, rfl, fun _ _ h => absurd h (by omega)⟩
  case round =>
    obtain ⟨k, hk, rfl, hd⟩ := hrel
    have HD : Hid (∀ j (h : j < xs.length), j < k → xs[j] = j) := hd
    clear hd
    by_cases hlt : k < xs.length
    · have hlt' : (k : Int) < (xs.length : Int) := by omega
      obtain ⟨b, p, rfl, hb, hc⟩ := hA.at k hlt
      obtain ⟨x, hx⟩ : ∃ x, x = xs[k] := ⟨_, rfl⟩
      rw [← hx] at hc
      have HX : Hid _ := hx
      clear hx
      cases hvx : (x != (k : Int))
      · go_wp2_with fail
        go_round
        case rel =>
          refine ⟨k + 1, by omega, by go_num, fun j h hj => ?_⟩
          by_cases e : j = k
          · subst e; rw [← HX.out]; simpa using hvx
          · exact HD.out j h (by omega)
        case measure => simp [intOf]; omega
      · go_wp2_with fail
        go_ret
        refine ⟨Ans.no fun h => ?_, rfl⟩
        have := h k hlt
        rw [← HX.out] at this
        simp [this] at hvx
    · obtain rfl : k = xs.length := by omega
      go_wp2_with fail
      go_ret
      exact ⟨Ans.yes fun j h => HD.out j h h, rfl⟩

theorem mem_take_iff (xs : List Int) (k : Nat) (v : Int) : v ∈ xs.take k ↔ ∃ j, ∃ h : j < xs.length, j < k ∧ xs[j] = v := by
  constructor
  · intro h
    obtain ⟨j, hj, e⟩ := List.getElem_of_mem h
    simp at hj
    exact ⟨j, by omega, by omega, by simpa using e⟩
  · rintro ⟨j, h, hk, e⟩
    exact List.mem_iff_getElem.2 ⟨j, by simp; omega, by rw [List.getElem_take]; exact e⟩

/-- Keys that are numbers, each once, up to place n. -/
def Once (ks : List Int) (n : Nat) : Prop := ∀ i (h : i < ks.length), i < n → inB ks[i] 0 4294967295 = true ∧ ∀ j (hj : j < i), ks[j] ≠ ks[i]

set_option maxRecDepth 100000 in
set_option maxHeartbeats 2000000 in
theorem f33 (xs : List Int) (a : Option Addr) (cap : Nat) (w : World) (hA : ArgI w a xs) (hn : xs.length ≤ 1048576) (hcap : xs.length ≤ cap) :
    Calls Try.prog 50 #[.slice a xs.length cap] w fun e w' => Ans e (Once xs xs.length) ∧ w' = w := by
  go_enter Try.func50, Try.ntmps50
  go_wp2_with fail
  go_loop [7] (fun i => ∃ k : Nat, k ≤ xs.length ∧ i = .int .i64 k ∧ Once xs k) (fun i => xs.length - (intOf i).toNat)
  case atStart => exact ⟨0, Nat.zero_le _, rfl, fun _ _ h => absurd h (by omega)⟩
  case round =>
    obtain ⟨k, hk, rfl, hd⟩ := hrel
    have HD : Hid (Once xs k) := hd
    clear hd
    by_cases hlt : k < xs.length
    · have hlt' : (k : Int) < (xs.length : Int) := by omega
      have hkc : (k : Int) ≤ (cap : Int) := by omega
      obtain ⟨b, p, rfl, hb, hc⟩ := hA.at k hlt
      have hpre : ArgI w (some ⟨b, p, none⟩) (xs.take k) := by
        rcases hA with rfl | ⟨b', p', e, hlt', hr⟩
        · simp at hlt
        · simp only [Option.some.injEq, Addr.mk.injEq, and_true] at e
          obtain ⟨rfl, rfl⟩ := e
          refine .inr ⟨b, p, rfl, hlt', fun j hj => ?_⟩
          simp at hj
          rw [List.getElem_take]
          exact hr j (by omega)
      have hpl : (xs.take k).length = k := by simp; omega
      have hmem := mem_take_iff xs k
      obtain ⟨ys, hys⟩ : ∃ ys, ys = xs.take k := ⟨_, rfl⟩
      rw [← hys] at hpre hpl hmem
      clear hys
      obtain ⟨x, hx⟩ : ∃ x, x = xs[k] := ⟨_, rfl⟩
      rw [← hx] at hc
      have HX : Hid _ := hx
      have HP : Hid (ArgI w (some ⟨b, p, none⟩) ys) := hpre
      have HL : Hid _ := hpl
      have HM : Hid (∀ v, v ∈ ys ↔ ∃ j, ∃ h : j < xs.length, j < k ∧ xs[j] = v) := hmem
      clear hx hpre hpl hmem
      cases hnum : inB x 0 4294967295
      · go_wp2_with fail
        refine (f56 _ _).mono ?_
        rintro e w1 ⟨rfl, rfl⟩
        go_wp2_with fail
        go_ret
        exact ⟨Ans.no (fun h => by have := (h k hlt hlt).1; rw [← HX.out, hnum] at this; cases this), rfl⟩
      · go_wp2_with fail
        refine (f56 _ _).mono ?_
        rintro e w1 ⟨rfl, rfl⟩
        go_wp2_with fail
        have hk7 : ys.length = k := HL.out
        have c57 := f57 ys x (some ⟨b, p, none⟩) cap w1 HP.out (by omega)
        rw [hk7] at c57
        refine c57.mono ?_
        rintro e w2 ⟨rfl, rfl⟩
        clear c57 hk7
        cases hin : decide (x ∈ ys)
        · go_wp2_with fail
          go_round
          case rel =>
            refine ⟨k + 1, by omega, by go_num, fun i h hi => ?_⟩
            by_cases e : i = k
            · subst e
              refine ⟨by rw [← HX.out]; exact hnum, fun j hj hne => ?_⟩
              have : x ∈ ys := (HM.out x).2 ⟨j, by omega, hj, by rw [HX.out]; exact hne⟩
              simp [this] at hin
            · exact HD.out i h (by omega)
          case measure => simp [intOf]; omega
        · go_wp2_with fail
          go_ret
          refine ⟨Ans.no fun h => ?_, rfl⟩
          have hx : x ∈ ys := by simpa using hin
          obtain ⟨j, hj, hjk, e⟩ := (HM.out x).1 hx
          exact (h k hlt hlt).2 j hjk (by rw [e, HX.out])
    · obtain rfl : k = xs.length := by omega
      go_wp2_with fail
      go_ret
      exact ⟨Ans.yes HD.out, rfl⟩

theorem ok_row {s r : Int} {ks : List Int} {vs : List ByteArray} (hsh : shape2B 1 s r ks.length vs.length = true) (hsz : ∀ i (h : i < vs.length), (vs[i].size : Int) = s) : OkP 1 s r ks vs ↔ ((ks.length : Int) = r ∧ ∀ j (h : j < ks.length), ks[j] = j) := by
  obtain ⟨hlen, hr1, hr8, _, _⟩ := shape2_len hsh
  constructor
  · intro h
    exact ⟨h.full rfl, fun j hj => h.good.row rfl j hj hj⟩
  · rintro ⟨h1, h2⟩
    refine ⟨hsh, fun _ => h1, ⟨fun i h _ => hsz i h, fun i h _ => ?_, fun _ i h _ => h2 i h, fun i h _ j hj => ?_⟩⟩
    · rw [h2 i h]; simp [inB]; omega
    · rw [h2 i h, h2 j (by omega)]; omega
theorem ok_hash {k s r : Int} {ks : List Int} {vs : List ByteArray} (hk : k ≠ 1) (hsh : shape2B k s r ks.length vs.length = true) (hsz : ∀ i (h : i < vs.length), (vs[i].size : Int) = s) : OkP k s r ks vs ↔ Once ks ks.length := by
  constructor
  · intro h i hi hn
    exact ⟨h.good.num i hi hn, h.good.once i hi hn⟩
  · intro h
    exact ⟨hsh, fun e => absurd e hk, ⟨fun i hi _ => hsz i hi, fun i hi hn => (h i hi hn).1, fun e => absurd e hk, fun i hi hn => (h i hi hn).2⟩⟩

set_option maxRecDepth 100000 in
set_option maxHeartbeats 4000000 in
theorem f12 (k s r : Int) (ks : List Int) (vs : List ByteArray) (a b : Option Addr) (c d : Nat) (w : World) (hA : ArgI w a ks) (hB : ArgS w b vs) (hc : ks.length ≤ c) (hkm : ks.length ≤ 1048576) (hvm : vs.length ≤ 1048576) :
    Calls Try.prog 33 #[.agg #[.int .i64 k, .int .i64 s, .int .i64 r, .slice a ks.length c, .slice b vs.length d]] w fun e w' => Ans e (OkP k s r ks vs) ∧ Below w.heap.size w w' := by
  have hcA : ∀ X, Below w.heap.size w (w.alloc X) := fun X => (Below.refl _ _).alloc (Nat.le_refl _) _
  cases hs0 : shapeB k s r
  · have hno : ¬ OkP k s r ks vs := fun h => by have := h.shape; simp [shape2B, hs0] at this
    have HNO : Hid _ := hno
    clear hno
    go_enter Try.func33, Try.ntmps33
    go_wp2_with fail
    refine (f31 _ _ _ _).mono ?_
    rintro e w1 ⟨rfl, rfl⟩
    go_wp2_with fail
    go_ret
    exact ⟨Ans.no HNO.out, hcA _⟩
  by_cases hrm : r < (ks.length : Int)
  · have hno : ¬ OkP k s r ks vs := fun h => by have := (shape2_len h.shape).2.1; omega
    have HNO : Hid _ := hno
    clear hno
    go_enter Try.func33, Try.ntmps33
    go_wp2_with fail
    refine (f31 _ _ _ _).mono ?_
    rintro e w1 ⟨rfl, rfl⟩
    go_wp2_with fail
    go_ret
    exact ⟨Ans.no HNO.out, hcA _⟩
  have hrm' : (ks.length : Int) ≤ r := by omega
  clear hrm
  by_cases hvl : ks.length = vs.length
  case neg =>
    have hno : ¬ OkP k s r ks vs := fun h => hvl (shape2_len h.shape).1
    have HNO : Hid _ := hno
    have hvl' : ((vs.length : Int) != (ks.length : Int)) = true := by rw [bne_iff_ne]; omega
    clear hno hvl
    go_enter Try.func33, Try.ntmps33
    go_wp2_with fail
    refine (f31 _ _ _ _).mono ?_
    rintro e w1 ⟨rfl, rfl⟩
    go_wp2_with fail
    go_ret
    exact ⟨Ans.no HNO.out, hcA _⟩
  have hsh : shape2B k s r ks.length vs.length = true := by simp [shape2B, hs0, hvl] at *; omega
  have HSH : Hid (shape2B k s r ks.length vs.length = true) := hsh
  have hvl' : ((vs.length : Int) != (ks.length : Int)) = false := by simp [hvl]
  clear hsh hvl
  go_enter Try.func33, Try.ntmps33
  go_wp2_with fail
  refine (f31 _ _ _ _).mono ?_
  rintro e w1 ⟨rfl, rfl⟩
  go_wp2_with fail
  go_loop [33] (fun i => ∃ n : Nat, n ≤ vs.length ∧ i = .int .i64 n ∧ ∀ j (h : j < vs.length), j < n → (vs[j].size : Int) = s) (fun i => vs.length - (intOf i).toNat)
  case atStart => exact ⟨0, Nat.zero_le _, rfl, fun _ _ h => absurd h (by omega)⟩
  case round =>
    obtain ⟨n, hn, rfl, hd⟩ := hrel
    have HD : Hid (∀ j (h : j < vs.length), j < n → (vs[j].size : Int) = s) := hd
    clear hd
    by_cases hlt : n < vs.length
    · have hlt' : (n : Int) < (vs.length : Int) := by omega
      obtain ⟨b2, p2, rfl, hb2, hval⟩ := hB.at n hlt
      obtain ⟨x, hx⟩ : ∃ x, x = vs[n] := ⟨_, rfl⟩
      rw [← hx] at hval
      have HX : Hid _ := hx
      clear hx
      cases hsz : ((x.size : Int) != s)
      · go_wp2_with fail
        go_round
        case rel =>
          refine ⟨n + 1, by omega, by go_num, fun j h hj => ?_⟩
          by_cases e : j = n
          · subst e; rw [← HX.out]; simpa using hsz
          · exact HD.out j h (by omega)
        case measure => simp [intOf]; omega
      · go_wp2_with fail
        go_ret
        refine ⟨Ans.no fun h => ?_, hcA _⟩
        have hl := (shape2_len HSH.out).1
        have := h.good.size n hlt (by omega)
        rw [← HX.out] at this
        simp [this] at hsz
    · obtain rfl : n = vs.length := by omega
      have hall : ∀ i (h : i < vs.length), (vs[i].size : Int) = s := fun i h => HD.out i h h
      have HALL : Hid (∀ i (h : i < vs.length), (vs[i].size : Int) = s) := hall
      clear hall
      by_cases hk : k = 1
      · subst hk
        by_cases hfull : (ks.length : Int) = r
        · have hfull' : ((ks.length : Int) == r) = true := by simpa using hfull
          have HF : Hid _ := hfull
          clear hfull
          go_wp2_with fail
          refine (f32 ks _ _ _ (hA.below (hcA _) (Nat.le_refl _)) hkm).mono ?_
          rintro e w2 ⟨⟨q, rfl, hq⟩, rfl⟩
          have HQ : Hid _ := hq
          clear hq
          go_wp2_with fail
          go_ret
          exact ⟨⟨q, rfl, HQ.out.trans ⟨fun h => (ok_row HSH.out HALL.out).2 ⟨HF.out, h⟩, fun h => ((ok_row HSH.out HALL.out).1 h).2⟩⟩, hcA _⟩
        · have hfull' : ((ks.length : Int) == r) = false := by simpa using hfull
          have HF : Hid _ := hfull
          clear hfull
          go_wp2_with fail
          go_ret
          exact ⟨Ans.no fun h => HF.out (h.full rfl), hcA _⟩
      · have hk' : (k == 1) = false := by simpa using hk
        have HK : Hid _ := hk
        clear hk
        go_wp2_with fail
        refine (f33 ks _ _ _ (hA.below (hcA _) (Nat.le_refl _)) hkm hc).mono ?_
        rintro e w2 ⟨⟨q, rfl, hq⟩, rfl⟩
        have HQ : Hid _ := hq
        clear hq
        go_wp2_with fail
        go_ret
        exact ⟨⟨q, rfl, HQ.out.trans (ok_hash HK.out HSH.out HALL.out).symm⟩, hcA _⟩

end Go.Proofs.Ytghcknbpipaghaa
