/- markInsS, heldInsS, and the walk of the law FnExactProgGet. -/
import Derived.Test.YtghabgjpdkijiaaPGet2
namespace Go.Proofs.Ytghabgjpdkijiaa
open Go.RowKit
set_option linter.unusedSimpArgs false

def mk6 (c : Int) : I6 := ⟨c, c + 1, c + 1 + 1, c + 1 + 1 + 1, c + 1 + 1 + 1 + 1, c + 1 + 1 + 1 + 1 + 1⟩
/-- The marks that markInsS lays. -/
def Marked (w : World) (g n : Nat) : Prop := ∀ k, k < n → InsAt w g (k * 6) (mk6 (1 + 6 * k))
theorem Marked.below {w w' : World} {g n B : Nat} (h : Marked w g n) (hb : Below B w w') (hB : g < B) : Marked w' g n := fun k hk => (h k hk).below hb hB

set_option maxRecDepth 100000 in
set_option maxHeartbeats 2000000 in
theorem f26 (g n cap : Nat) (w : World) (hroom : Room w g (n * 6)) (hn : n ≤ 1048576) (_hg : g < w.heap.size) :
    Calls Try.prog 26 #[.slice (some ⟨g, 0, none⟩) n cap, .int .i64 1] w fun e w' => e = .returned (.int .i64 (1 + 6 * n)) ∧ Marked w' g n ∧ w'.heap.size = w.heap.size ∧ Below g w w' := by
  go_enter Try.func26, Try.ntmps26
  go_wp2_with fail
  go_loopw [1, 5] (fun c i wr => ∃ k m : Nat, k ≤ n ∧ m = 1 + 6 * k ∧ i = .int .i64 k ∧ c = .int .i64 m ∧ Room wr g (n * 6) ∧ wr.heap.size = w.heap.size ∧ Below g w wr ∧ Marked wr g k) (fun _ i _ => n - (intOf i).toNat)
  case atStart => exact ⟨0, 1, Nat.zero_le _, rfl, rfl, rfl, hroom, rfl, Below.refl _ _, fun k h => absurd h (by omega)⟩
  case round =>
    clear hroom
    obtain ⟨k, m, hk, hm, rfl, rfl, hroom, hsz, hbw, hdone⟩ := hrel
    have HD : Hid _ := hdone
    have HR : Hid _ := hroom
    have HM : Hid _ := hm
    have hmb : (m : Int) ≤ 6291457 := by omega
    have HZ : Hid _ := hsz
    clear hdone hsz
    by_cases hlt : k < n
    · have hlt' : (k : Int) < (n : Int) := by omega
      obtain ⟨⟨u0, g0⟩, z0⟩ := hroom (k * 6) (by omega)
      obtain ⟨⟨u1, g1⟩, z1⟩ := hroom (k * 6 + 1) (by omega)
      obtain ⟨⟨u2, g2⟩, z2⟩ := hroom (k * 6 + 2) (by omega)
      obtain ⟨⟨u3, g3⟩, z3⟩ := hroom (k * 6 + 3) (by omega)
      obtain ⟨⟨u4, g4⟩, z4⟩ := hroom (k * 6 + 4) (by omega)
      obtain ⟨⟨u5, g5⟩, z5⟩ := hroom (k * 6 + 5) (by omega)
      clear hroom hm
      go_wp2_with fail
      refine ⟨⟨k + 1, m + 6, by omega, by have := HM.out; omega, congrArg (Value.int .i64) (by omega), congrArg (Value.int .i64) (by omega), st6_room (q := k * 6) (x := mk6 m) HR.out, by simpa using HZ.out, st6_below (g := g) (q := k * 6) (x := mk6 m) hbw (Nat.le_refl _), ?_⟩, by simp [intOf]; omega⟩
      intro j hj
      by_cases hjk : j < k
      · exact InsAt.st6 (w := wr) (g := g) (q := k * 6) (x := mk6 m) (HD.out j hjk) (by omega)
      · obtain rfl : j = k := by omega
        have e : mk6 (1 + 6 * (j : Int)) = mk6 m := by have := HM.out; congr 1; omega
        rw [e]
        exact st6_at (w := wr) (g := g) (q := j * 6) (m := n * 6) (x := mk6 m) HR.out (by omega)
    · obtain rfl : k = n := by omega
      clear hm
      go_wp2_with fail
      go_ret
      exact ⟨ret_i64 (by have := HM.out; omega), HD.out, HZ.out, hbw⟩

set_option maxRecDepth 100000 in
set_option maxHeartbeats 2000000 in
theorem f27 (g n cap : Nat) (w : World) (hmk : Marked w g n) (hn : n ≤ 1048576) :
    Calls Try.prog 27 #[.slice (some ⟨g, 0, none⟩) n cap, .int .i64 1] w fun e w' => e = .returned (.int .i64 (1 + 6 * n)) ∧ w' = w := by
  go_enter Try.func27, Try.ntmps27
  go_wp2_with fail
  go_loop [1, 5] (fun c i => ∃ k m : Nat, k ≤ n ∧ m = 1 + 6 * k ∧ i = .int .i64 k ∧ c = .int .i64 m) (fun _ i => n - (intOf i).toNat)
  case atStart => exact ⟨0, 1, Nat.zero_le _, rfl, rfl, rfl⟩
  case round =>
    obtain ⟨k, m, hk, hm, rfl, rfl⟩ := hrel
    have HM : Hid _ := hm
    have hmb : (m : Int) ≤ 6291457 := by omega
    by_cases hlt : k < n
    · have hlt' : (k : Int) < (n : Int) := by omega
      have e : mk6 (1 + 6 * (k : Int)) = mk6 m := by congr 1; omega
      obtain ⟨h0, h1, h2, h3, h4, h5⟩ := hmk k hlt
      rw [e] at h0 h1 h2 h3 h4 h5
      simp only [mk6] at h0 h1 h2 h3 h4 h5
      clear hm e
      go_wp2_with fail
      go_round
      case rel => exact ⟨k + 1, m + 6, by omega, by have := HM.out; omega, congrArg (Value.int .i64) (by omega), congrArg (Value.int .i64) (by omega)⟩
      case measure => simp [intOf]; omega
    · obtain rfl : k = n := by omega
      clear hm
      go_wp2_with fail
      go_ret
      exact ⟨ret_i64 (by have := HM.out; omega), rfl⟩

set_option maxRecDepth 100000 in
set_option maxHeartbeats 2000000 in
theorem f21z (w : World) :
    Calls Try.prog 21 #[.slice none 0 0, .slice none 0 0] w fun e w' => e = .returned (.bool true) ∧ w' = w := by
  go_enter Try.func21, Try.ntmps21
  go_wp2_with fail
  refine wp_loop_rounds 1 ?_
  rw [rounds_succ]
  go_wp2_with fail
  go_ret
  exact ⟨rfl, rfl⟩
set_option maxRecDepth 100000 in
set_option maxHeartbeats 2000000 in
theorem f26z (w : World) :
    Calls Try.prog 26 #[.slice none 0 0, .int .i64 1] w fun e w' => e = .returned (.int .i64 1) ∧ w' = w := by
  go_enter Try.func26, Try.ntmps26
  go_wp2_with fail
  refine wp_loop_rounds 1 ?_
  rw [rounds_succ]
  go_wp2_with fail
  go_ret
  exact ⟨rfl, rfl⟩
set_option maxRecDepth 100000 in
set_option maxHeartbeats 2000000 in
theorem f27z (w : World) :
    Calls Try.prog 27 #[.slice none 0 0, .int .i64 1] w fun e w' => e = .returned (.int .i64 1) ∧ w' = w := by
  go_enter Try.func27, Try.ntmps27
  go_wp2_with fail
  refine wp_loop_rounds 1 ?_
  rw [rounds_succ]
  go_wp2_with fail
  go_ret
  exact ⟨rfl, rfl⟩

set_option maxRecDepth 100000 in
set_option maxHeartbeats 2000000 in
theorem f8 (s : ByteArray) (w : World) :
    Calls Try.prog 8 #[.string s] w fun e w' => e = .returned (.bool true) ∧ Below w.heap.size w w' := by
  by_cases hbig : (1048576 : Int) < (s.size : Int)
  · go_enter Try.func8, Try.ntmps8
    go_wp2_with fail
    go_ret
    exact ⟨rfl, Below.refl _ _⟩
  have hs : s.size ≤ 1048576 := by omega
  have hs' : (s.size : Int) ≤ 1048576 := by omega
  clear hbig
  cases hG : progG s with
  | none =>
    have HG : Hid _ := hG
    clear hG
    go_enter Try.func8, Try.ntmps8
    go_wp2_with fail
    refine (f24 s _ hs).mono ?_
    rintro e w1 ⟨v1, rfl, hp1, hb1⟩
    rw [HG.out] at hp1
    obtain rfl : v1 = .tuple #[.slice none 0 0, .bool false] := hp1
    go_wp2_with fail
    refine (f25 s _ hs).mono ?_
    rintro e w2 ⟨v2, rfl, hp2, hb2⟩
    rw [HG.out] at hp2
    obtain rfl : v2 = .tuple #[.slice none 0 0, .bool false] := hp2
    go_wp2_with fail
    refine (f21z _).mono ?_
    rintro e w3 ⟨rfl, rfl⟩
    go_wp2_with fail
    refine (f26z _).mono ?_
    rintro e w4 ⟨rfl, rfl⟩
    go_wp2_with fail
    refine (f27z _).mono ?_
    rintro e w5 ⟨rfl, rfl⟩
    go_wp2_with fail
    refine (f25 s _ hs).mono ?_
    rintro e w6 ⟨v6, rfl, hp6, hb6⟩
    rw [HG.out] at hp6
    obtain rfl : v6 = .tuple #[.slice none 0 0, .bool false] := hp6
    go_wp2_with fail
    refine (f21z _).mono ?_
    rintro e w7 ⟨rfl, rfl⟩
    go_wp2_with fail
    refine (f27z _).mono ?_
    rintro e w8 ⟨rfl, rfl⟩
    go_wp2_with fail
    go_ret
    exact ⟨rfl, (hb1.trans (hb2.mono hb1.size)).trans (hb6.mono (by have := hb1.size; have := hb2.size; omega))⟩
  | some xs =>
    have HG : Hid _ := hG
    have hxl : xs.length ≤ 1048576 := by
      unfold progG at hG
      split at hG
      · split at hG
        · rename_i ys hy
          split at hG
          · rename_i hf
            simp at hG
            subst hG
            have := form_small hf
            omega
          · cases hG
        · cases hG
      · cases hG
    clear hG
    have hxl' : (xs.length : Int) ≤ 1048576 := by omega
    go_enter Try.func8, Try.ntmps8
    go_wp2_with fail
    refine (f24 s _ hs).mono ?_
    rintro e w1 ⟨v1, rfl, hp1, hb1⟩
    rw [HG.out] at hp1
    obtain ⟨g1, c1, rfl, hg1, hl1, hr1, _⟩ := hp1
    go_wp2_with fail
    refine (f25 s _ hs).mono ?_
    rintro e w2 ⟨v2, rfl, hp2, hb2⟩
    rw [HG.out] at hp2
    obtain ⟨g2, c2, rfl, hg2, hl2, hr2, hm2⟩ := hp2
    have hr12 := hr1.below hb2 hl1
    have hl12 : g1 < w2.heap.size := by omega
    go_wp2_with fail
    refine (f21 xs _ _ _ _ _ hr2 hr12 hxl hl2 hl12).mono ?_
    rintro e w3 ⟨rfl, hb3⟩
    have hr13 := hr12.below hb3 hl12
    have hl13 : g1 < w3.heap.size := by have := hb3.size; omega
    have hm3 := Room.below hm2 hb3 hl2
    have hl23 : g2 < w3.heap.size := by have := hb3.size; omega
    go_wp2_with fail
    refine (f26 _ _ _ _ hm3 hxl hl23).mono ?_
    rintro e w4 ⟨rfl, hk4, hz4, hb4⟩
    have hr14 := hr13.below hb4 (by omega)
    have hl14 : g1 < w4.heap.size := by omega
    go_wp2_with fail
    refine (f27 _ _ _ _ hk4 hxl).mono ?_
    rintro e w5 ⟨rfl, rfl⟩
    go_wp2_with fail
    refine (f25 s _ hs).mono ?_
    rintro e w6 ⟨v6, rfl, hp6, hb6⟩
    rw [HG.out] at hp6
    obtain ⟨g6, c6, rfl, hg6, hl6, hr6, _⟩ := hp6
    have hr16 := hr14.below hb6 hl14
    have hl16 : g1 < w6.heap.size := by have := hb6.size; omega
    have hk6 := hk4.below hb6 (by omega)
    go_wp2_with fail
    refine (f21 xs _ _ _ _ _ hr6 hr16 hxl hl6 hl16).mono ?_
    rintro e w7 ⟨rfl, hb7⟩
    have hk7 := hk6.below hb7 (by have := hb6.size; omega)
    go_wp2_with fail
    refine (f27 _ _ _ _ hk7 hxl).mono ?_
    rintro e w8 ⟨rfl, rfl⟩
    go_wp2_with fail
    go_ret
    have s1 := hb1.size
    have s2 := hb2.size
    have s3 := hb3.size
    have s6 := hb6.size
    exact ⟨rfl, (((((hb1.trans (hb2.mono s1)).trans (hb3.mono (by omega))).trans (hb4.mono (by omega))).trans (hb6.mono (by omega))).trans (hb7.mono (by omega)))⟩

end Go.Proofs.Ytghabgjpdkijiaa
