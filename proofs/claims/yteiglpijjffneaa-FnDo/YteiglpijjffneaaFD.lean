/- The law of RangeDo, drawn. -/
import Derived.Test.YteiglpijjffneaaXA
import Derived.Test.YteiglpijjffneaaDQ
namespace Go.Proofs.Yteiglpijjffneaa
open Go.RowKit
set_option linter.unusedVariables false
set_option linter.unusedSimpArgs false

theorem and_mask (x : Int) : bits .and .i64 x 4294967295 = x % 4294967296 := by
  show IntKind.i64.wrap ((BitVec.ofInt 64 x &&& BitVec.ofInt 64 4294967295).toNat : Int) = _
  have e : (BitVec.ofInt 64 (4294967295 : Int)).toNat = 2 ^ 32 - 1 := by decide
  rw [BitVec.toNat_and, ofInt64, e, Nat.and_two_pow_sub_one_eq_mod, IntKind.wrap_i64]
  omega

/-- What RangeDo answers, of both. -/
abbrev DoP (op : Int) (a b v : Nat) : Prop := ∀ w, Calls Try.prog 13 #[.int .i64 op, .int .i64 a, .int .i64 b] w fun e w' => e = .returned (.int .i64 v) ∧ Below w.heap.size w w'
abbrev DoS (op : Int) (a b v : Nat) : Prop := ∀ w, Calls Try.prog 14 #[.int .i64 op, .int .i64 a, .int .i64 b] w fun e w' => e = .returned (.int .i64 v) ∧ w' = w

theorem mask_nat (x : Int) (n : Nat) (h : x % 4294967296 = n) : bits .and .i64 x 4294967295 = (n : Int) := (and_mask x).trans h
theorem le_mod (n : Nat) : n % 4294967296 ≤ 4294967295 := by omega

theorem do_ex (op : Int) (a b : Nat) (h : inB op 1 11 = true) (ha : a ≤ 4294967295) (hb : b ≤ 4294967295) : ∃ v : Nat, v ≤ 4294967295 ∧ DoP op a b v ∧ DoS op a b v := by
  have hop : op = 1 ∨ op = 2 ∨ op = 3 ∨ op = 4 ∨ op = 5 ∨ op = 6 ∨ op = 7 ∨ op = 8 ∨ op = 9 ∨ op = 10 ∨ op = 11 := by simp [inB] at h; omega
  have A : ∀ (v : Nat) (x : Int), v ≤ 4294967295 → x = v → (∀ w, Calls Try.prog 13 #[.int .i64 op, .int .i64 a, .int .i64 b] w fun e w' => e = .returned (.int .i64 x) ∧ Below w.heap.size w w') →
      (∀ w, Calls Try.prog 50 #[.int .i64 op, .int .i64 a, .int .i64 b] w fun e w' => e = .returned (.int .i64 x) ∧ w' = w) → ∃ v : Nat, v ≤ 4294967295 ∧ DoP op a b v ∧ DoS op a b v := by
    intro v x hv hx h1 h2
    subst hx
    exact ⟨v, hv, h1, fun w => c_specDo_yes op v a b w h ha hb h2⟩
  rcases hop with rfl | rfl | rfl | rfl | rfl | rfl | rfl | rfl | rfl | rfl | rfl
  · exact A _ _ hb rfl (fun w => c_Do_1 a b w ha hb) (fun w => c_l2Do_1 a b w ha hb)
  · exact A (((a : Int) + b) % 4294967296).toNat _ (by omega) (by rw [and_mask]; omega) (fun w => c_Do_2 a b w ha hb) (fun w => c_l2Do_2 a b w ha hb)
  · exact A (((a : Int) - b) % 4294967296).toNat _ (by omega) (by rw [and_mask]; omega) (fun w => c_Do_3 a b w ha hb) (fun w => c_l2Do_3 a b w ha hb)
  · exact A ((wrap64 ((a : Int) * b)) % 4294967296).toNat _ (by omega) (by rw [and_mask]; omega) (fun w => c_Do_4 a b w ha hb) (fun w => c_l2Do_4 a b w ha hb)
  · exact A _ _ (and_le _ ha) rfl (fun w => c_Do_5 a b w ha hb) (fun w => c_l2Do_5 a b w ha hb)
  · exact A _ _ (or_le ha hb) rfl (fun w => c_Do_6 a b w ha hb) (fun w => c_l2Do_6 a b w ha hb)
  · exact A _ _ (xor_le ha hb) rfl (fun w => c_Do_7 a b w ha hb) (fun w => c_l2Do_7 a b w ha hb)
  · exact A (((a * 2 ^ (b % 32) : Nat) : Int) % 4294967296).toNat _ (by omega) (by rw [and_mask]; omega) (fun w => c_Do_8 a b w ha hb) (fun w => c_l2Do_8 a b w ha hb)
  · exact A _ _ (Nat.le_trans (Nat.div_le_self _ _) ha) rfl (fun w => c_Do_9 a b w ha hb) (fun w => c_l2Do_9 a b w ha hb)
  · exact A _ _ (Nat.le_trans (Nat.div_le_self _ _) ha) rfl (fun w => c_Do_10 a b w ha hb) (fun w => c_l2Do_10 a b w ha hb)
  · exact A _ _ (Nat.le_trans (Nat.mod_le _ _) ha) rfl (fun w => c_Do_11 a b w ha hb) (fun w => c_l2Do_11 a b w ha hb)

theorem wrap64_small {n : Nat} (h : n ≤ 4294967295) : wrap64 (n : Int) = n := by
  simp only [wrap64]
  omega
theorem sub_back {A B : Nat} (hA : A ≤ 4294967295) (hB : B ≤ 4294967295) : (((A + B) % 4294967296 : Nat) - (B : Int)) % 4294967296 = (A : Int) := by omega
theorem nmod {n : Nat} (h : n ≤ 4294967295) : (n : Int) % 4294967296 = n := by omega
theorem do_parts (A B : Nat) (hA : A ≤ 4294967295) (hB : B ≤ 4294967295) : ∃ S T Q R M : Nat, DoP 2 A B S ∧ DoP 7 A B T ∧ DoP 10 A B Q ∧ DoP 11 A B R ∧ DoP 4 Q B M ∧ DoP 2 M R A ∧ DoP 3 S B A ∧ DoP 7 T B A ∧ DoP 1 A B B := by
  have lQ : A / B ≤ 4294967295 := Nat.le_trans (Nat.div_le_self _ _) hA
  have lR : A % B ≤ 4294967295 := Nat.le_trans (Nat.mod_le _ _) hA
  have eA : A / B * B + A % B = A := Nat.div_add_mod' A B
  have lM : A / B * B ≤ 4294967295 := Nat.le_trans (Nat.div_mul_le_self A B) hA
  have lT : A ^^^ B ≤ 4294967295 := xor_le hA hB
  refine ⟨(A + B) % 4294967296, A ^^^ B, A / B, A % B, A / B * B, fun w => ?_, fun w => c_Do_7 A B w hA hB, fun w => c_Do_10 A B w hA hB, fun w => c_Do_11 A B w hA hB, fun w => ?_, fun w => ?_, fun w => ?_, fun w => ?_, fun w => c_Do_1 A B w hA hB⟩
  · have t := c_Do_2 A B w hA hB
    rwa [mask_nat _ ((A + B) % 4294967296) (by omega)] at t
  · have t := c_Do_4 (A / B) B w lQ hB
    have e : wrap64 (((A / B : Nat) : Int) * (B : Int)) = ((A / B * B : Nat) : Int) := by
      rw [← Int.natCast_mul]
      exact wrap64_small lM
    rw [e, mask_nat _ (A / B * B) (nmod lM)] at t
    exact t
  · have t := c_Do_2 (A / B * B) (A % B) w lM lR
    rw [← Int.natCast_add, eA, mask_nat _ A (nmod hA)] at t
    exact t
  · have t := c_Do_3 ((A + B) % 4294967296) B w (le_mod _) hB
    rwa [mask_nat _ A (sub_back hA hB)] at t
  · have t := c_Do_7 (A ^^^ B) B w lT hB
    rwa [Nat.xor_assoc, Nat.xor_self, Nat.xor_zero] at t

theorem do_no (op x y : Int) (h : (inB op 1 11 && (inB x 0 4294967295 && inB y 0 4294967295)) = false) :
    (∀ w, Calls Try.prog 13 #[.int .i64 op, .int .i64 x, .int .i64 y] w fun e w' => e = .returned (.int .i64 (-1)) ∧ Below w.heap.size w w') ∧
    (∀ w, Calls Try.prog 14 #[.int .i64 op, .int .i64 x, .int .i64 y] w fun e w' => e = .returned (.int .i64 (-1)) ∧ w' = w) := by
  cases h1 : inB op 1 11
  · exact ⟨fun w => c_Do_no1 op x y w h1, fun w => c_specDo_no1 op x y w h1⟩
  · rw [h1, Bool.true_and] at h
    exact ⟨fun w => c_Do_no2 op x y w h1 h, fun w => c_specDo_no2 op x y w h1 h⟩

set_option maxRecDepth 100000 in
set_option maxHeartbeats 4000000 in
theorem drawDo_s (w : World) (a : Option Addr) (len cap : Nat) (hc : len ≤ cap) (hs : Src w a len) (hl : cap < 2 ^ 63) :
    Calls Try.prog 12 #[.slice a len cap] w fun e w' => ∃ (k x y : Int), e = .returned (.tuple #[.int .i64 k, .int .i64 x, .int .i64 y]) ∧ 0 ≤ k ∧ k ≤ 12 ∧ 0 ≤ x ∧ x ≤ 4294967295 ∧ -1 ≤ y ∧ y ≤ 4294967296 ∧ Below w.heap.size w w' := by
  have HS := hid hs
  clear hs
  go_enter Try.func12, Try.ntmps12
  go_wp2_with fail
  refine (open_s w a len cap hc HS.out hl).mono ?_
  rintro e w1 ⟨n, rfl, h1⟩
  have H1 := hid h1
  clear h1
  go_wp2_with fail
  refine (one_of H1.out (by omega) [1, 2, 3, 4, 5, 6, 7, 8, 9, 10, 11, 12, 0] 3 (by decide) (by decide)).mono ?_
  rintro e w3 ⟨k, hk, rfl, h3⟩
  have hk2 : 0 ≤ k ∧ k ≤ 12 := by
    simp only [List.mem_cons, List.not_mem_nil, or_false] at hk
    omega
  have H3 := hid h3
  clear h3 hk
  go_wp2_with fail
  refine (number_s H3.out (by omega)).mono ?_
  rintro e w2 ⟨x, q, rfl, x0, x1, hq, h2⟩
  have H2 := hid h2
  clear h2
  go_wp2_with fail
  refine (number_s H2.out (by omega)).mono ?_
  rintro e w4 ⟨z, q2, rfl, z0, z1, hq2, h4⟩
  have H4 := hid h4
  clear h4
  go_wp2_with fail
  refine (one_of H4.out (by omega) [z, 0, -1, 4294967296, 1, 5] 3 (by simp) (by simp)).mono ?_
  rintro e w5 ⟨y, hy, rfl, h5⟩
  have hy2 : -1 ≤ y ∧ y ≤ 4294967296 := by
    simp only [List.mem_cons, List.not_mem_nil, or_false] at hy
    omega
  have H5 := hid h5
  clear h5 hy
  go_wp2_with fail
  go_ret3
  exact ⟨k, x, y, rfl, hk2.1, hk2.2, x0, x1, hy2.1, hy2.2, H5.out.bel⟩

set_option maxRecDepth 100000 in
set_option maxHeartbeats 4000000 in
theorem law_fnDo (w : World) (a : Option Addr) (len cap : Nat) (hc : len ≤ cap) (hs : Src w a len) (hl : cap < 2 ^ 63) :
    Calls Try.prog 3 #[.slice a len cap] w fun e w' => e = .returned (.bool true) ∧ Below w.heap.size w w' := by
  have HS := hid hs
  clear hs
  go_enter Try.func3, Try.ntmps3
  go_wp2_with fail
  · go_ret
    exact ⟨rfl, Below.refl _ _⟩
  refine (drawDo_s w a len cap hc HS.out hl).mono ?_
  rintro e w1 ⟨k, x, y, rfl, k0, k1, x0, x1, y0, y1, b1⟩
  go_wp2_with fail
  cases hY : (inB k 1 11 && (inB x 0 4294967295 && inB y 0 4294967295))
  · obtain ⟨p1, p2⟩ := do_no k x y hY
    have P1 := hid p1
    have P2 := hid p2
    clear p1 p2 hY
    refine (P1.out _).mono ?_
    rintro e w2 ⟨rfl, b2⟩
    go_wp2_with fail
    refine (P2.out _).mono ?_
    rintro e w3 ⟨rfl, hw3⟩
    rw [hw3]; clear hw3 w3
    go_wp2_with fail
    refine (P2.out _).mono ?_
    rintro e w3 ⟨rfl, hw3⟩
    rw [hw3]; clear hw3 w3
    go_wp2_with fail
    go_ret
    exact ⟨rfl, b1.to b2⟩
  · obtain ⟨h1, h2⟩ := Bool.and_eq_true_iff.1 hY
    obtain ⟨A, B, rfl, rfl, hA, hB⟩ := nums h2
    obtain ⟨v, hv, p1, p2⟩ := do_ex k A B h1 hA hB
    obtain ⟨S, T, Q, R, M, d2, d7, d10, d11, d4, d2', d3, d7', d1⟩ := do_parts A B hA hB
    have D2 := hid d2
    have D7 := hid d7
    have D10 := hid d10
    have D11 := hid d11
    have D4 := hid d4
    have D2' := hid d2'
    have D3 := hid d3
    have D7' := hid d7'
    have D1 := hid d1
    clear d2 d7 d10 d11 d4 d2' d3 d7' d1
    have P1 := hid p1
    have P2 := hid p2
    have hv' : (v : Int) ≤ 4294967295 := by omega
    have hv0 : (0 : Int) ≤ v := by omega
    clear p1 p2 hY h1 h2 hA hB x0 x1 y0 y1 k0 k1 hv
    refine (P1.out _).mono ?_
    rintro e w2 ⟨rfl, b2⟩
    go_wp2_with fail
    refine (P2.out _).mono ?_
    rintro e w3 ⟨rfl, hw3⟩
    rw [hw3]; clear hw3 w3
    go_wp2_with fail
    refine (D2.out _).mono ?_
    rintro e w3 ⟨rfl, b3⟩
    go_wp2_with fail
    refine (D7.out _).mono ?_
    rintro e w4 ⟨rfl, b4⟩
    go_wp2_with fail
    refine (D10.out _).mono ?_
    rintro e w5 ⟨rfl, b5⟩
    go_wp2_with fail
    refine (D4.out _).mono ?_
    rintro e w6 ⟨rfl, b6⟩
    go_wp2_with fail
    refine (D11.out _).mono ?_
    rintro e w7 ⟨rfl, b7⟩
    go_wp2_with fail
    refine (D2'.out _).mono ?_
    rintro e w8 ⟨rfl, b8⟩
    go_wp2_with fail
    refine (D3.out _).mono ?_
    rintro e w9 ⟨rfl, b9⟩
    go_wp2_with fail
    refine (D7'.out _).mono ?_
    rintro e w10 ⟨rfl, b10⟩
    go_wp2_with fail
    refine (D1.out _).mono ?_
    rintro e w11 ⟨rfl, b11⟩
    go_wp2_with fail
    go_ret
    exact ⟨rfl, (((((((((b1.to b2).to b3).to b4).to b5).to b6).to b7).to b8).to b9).to b10).to b11⟩
end Go.Proofs.Yteiglpijjffneaa
