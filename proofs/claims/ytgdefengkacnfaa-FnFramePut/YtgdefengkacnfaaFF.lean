/- The draws of bytes; two lists of texts held against each other. -/
import Derived.Test.YtgdefengkacnfaaFE
namespace Go.Proofs.Ytgdefengkacnfaa
open Go.RowKit
set_option linter.unusedVariables false
set_option linter.unusedSimpArgs false

theorem putF_size (s : ByteArray) : (putF s).size ≤ s.size + 1 := by
  unfold putF
  split
  · rw [ByteArray.size_append, strOfNums_size]; simp; omega
  · exact Nat.zero_le _

set_option maxRecDepth 100000 in
set_option maxHeartbeats 4000000 in
theorem frames_k {w0 w : World} {B : Nat} {a : Option Addr} {len cap p : Nat} (h : RS w0 w B a len cap p) (hp : p ≤ 800000) :
    Calls Try.prog 24 #[.pointer (some ⟨B, 0, none⟩)] w fun e w' => ∃ (v : ByteArray) (q : Nat), e = .returned (.string v) ∧ v.size ≤ 60 ∧ q ≤ p + 100 ∧ K3 w0 w w' B a len cap q := by
  have HK0 := hid (K3.start h)
  have lB := h.lt
  clear h
  go_enter Try.func24, Try.ntmps24
  go_wp2_with fail
  refine (pick_k HK0.out.rs (by omega) 6 (by omega) (by omega)).mono ?_
  rintro e w1 ⟨m, rfl, hm, kk⟩
  have HK1 := hid (HK0.out.draw kk)
  clear kk HK0
  have hm0 : (0 : Int) ≤ (m : Int) := by omega
  go_wp2_with fail
  go_loopw [3, 4] (fun sv nn wr => ∃ (s : ByteArray) (k q : Nat), sv = .string s ∧ nn = .int .i64 k ∧ s.size + 6 * k ≤ 30 ∧ q + 6 * k ≤ p + 40 ∧ K3 w0 w wr B a len cap q) (fun _ nn _ => (intOf nn).toNat)
  case atStart => exact ⟨⟨#[]⟩, m, p + 1, rfl, rfl, by simp [ByteArray.size]; omega, by omega, HK1.out⟩
  case round =>
    clear HK1
    obtain ⟨s, k, q, rfl, rfl, hk, hq, hK⟩ := hrel
    have HD := hid hK
    clear hK
    have hsI : (s.size : Int) ≤ 30 := by omega
    by_cases hlt : 0 < k
    · obtain ⟨k, rfl⟩ : ∃ j, k = j + 1 := ⟨k - 1, by omega⟩
      have hlt' : (0 : Int) < ((k + 1 : Nat) : Int) := by omega
      have hk9 : (k : Int) ≤ 10 := by omega
      have HK := hid hk
      have HQ := hid hq
      clear hk hq
      go_wp2_with fail
      refine (frame_k HD.out.rs (by have := HQ.out; omega)).mono ?_
      rintro e w2 ⟨x, q2, rfl, hx0, hx1, hq2, kk⟩
      replace HD := hid (HD.out.draw kk)
      clear kk
      go_wp2_with fail
      refine (sfput_c x _).mono ?_
      rintro e w3 ⟨rfl, b3⟩
      replace HD := hid (HD.out.below b3)
      clear b3
      have hps := putF_size x
      generalize putF x = y at *
      have hyI : (y.size : Int) ≤ 6 := by omega
      have HX := hid hq2
      clear hq2
      go_wp2_with fail
      go_roundw
      case rel => exact ⟨s ++ y, k, q2, rfl, by simp, by have := HK.out; rw [ByteArray.size_append]; omega, by have := HQ.out; have := HX.out; omega, HD.out⟩
      case measure => simp [intOf]
    · obtain rfl : k = 0 := by omega
      have HQ := hid hq
      clear hk hq
      go_wp2_with fail
      refine (pick_k HD.out.rs (by have := HQ.out; omega) 6 (by omega) (by omega)).mono ?_
      rintro e w2 ⟨m2, rfl, hm2, kk⟩
      replace HD := hid (HD.out.draw kk)
      clear kk
      have hm20 : (0 : Int) ≤ (m2 : Int) := by omega
      generalize (m2 : Int) = y at *
      have hyc : y = 0 ∨ y = 1 ∨ 2 ≤ y := by omega
      rcases hyc with rfl | rfl | h2
      · go_wp2_with fail
        refine (pick_k HD.out.rs (by have := HQ.out; omega) ((s.size : Int) + 1) (by omega) (by omega)).mono ?_
        rintro e w3 ⟨m3, rfl, hm3, kk⟩
        replace HD := hid (HD.out.draw kk)
        clear kk
        have hm30 : (0 : Int) ≤ (m3 : Int) := by omega
        have hm31 : (m3 : Int) ≤ (s.size : Int) := by omega
        go_wp2_with fail
        go_ret
        exact ⟨_, _, rfl, by simp; omega, by have := HQ.out; omega, HD.out⟩
      · go_wp2_with fail
        refine (of_k HD.out.rs (by have := HQ.out; omega) [⟨#[0]⟩, ⟨#[13]⟩, ⟨#[5, 97, 98]⟩] (by decide) (by decide)).mono ?_
        rintro e w3 ⟨v, hv, rfl, kk⟩
        have hv3 : v.size ≤ 3 := by
          simp only [List.mem_cons, List.not_mem_nil, or_false] at hv
          rcases hv with rfl | rfl | rfl <;> simp [ByteArray.size]
        replace HD := hid (HD.out.draw kk)
        clear kk hv
        have hv3' : (v.size : Int) ≤ 3 := by omega
        go_wp2_with fail
        go_ret
        exact ⟨_, _, rfl, by rw [ByteArray.size_append]; omega, by have := HQ.out; omega, HD.out⟩
      · go_wp2_with fail
        go_ret
        exact ⟨_, _, rfl, by omega, by have := HQ.out; omega, HD.out⟩

set_option maxRecDepth 100000 in
set_option maxHeartbeats 4000000 in
theorem drawCut_w (w : World) (a : Option Addr) (len cap : Nat) (hc : len ≤ cap) (hs : Src w a len) (hl : cap < 2 ^ 63) :
    Calls Try.prog 12 #[.slice a len cap] w fun e w' => ∃ v : ByteArray, e = .returned (.string v) ∧ v.size ≤ 60 ∧ Below w.heap.size w w' := by
  have HS := hid hs
  clear hs
  go_enter Try.func12, Try.ntmps12
  go_wp2_with fail
  refine (open_s w a len cap hc HS.out hl).mono ?_
  rintro e w1 ⟨n, rfl, h1⟩
  have H1 := hid h1
  clear h1
  go_wp2_with fail
  refine (frames_k H1.out (by omega)).mono ?_
  rintro e w2 ⟨v, q, rfl, hv, hq, kk⟩
  have HB := hid kk.rs.bel
  clear kk
  go_wp2_with fail
  go_ret
  exact ⟨v, rfl, hv, HB.out⟩

set_option maxRecDepth 100000 in
set_option maxHeartbeats 4000000 in
theorem drawPut_w (w : World) (a : Option Addr) (len cap : Nat) (hc : len ≤ cap) (hs : Src w a len) (hl : cap < 2 ^ 63) :
    Calls Try.prog 7 #[.slice a len cap] w fun e w' => ∃ v : ByteArray, e = .returned (.string v) ∧ v.size ≤ 60 ∧ Below w.heap.size w w' := by
  have HS := hid hs
  clear hs
  go_enter Try.func7, Try.ntmps7
  go_wp2_with fail
  refine (open_s w a len cap hc HS.out hl).mono ?_
  rintro e w1 ⟨n, rfl, h1⟩
  have HD := hid (K3.start h1)
  clear h1
  go_wp2_with fail
  refine (frame_k HD.out.rs (by omega)).mono ?_
  rintro e w2 ⟨v2, q2, rfl, hv20, hv21, hq2, kk⟩
  replace HD := hid (HD.out.draw kk)
  clear kk
  go_wp2_with fail
  refine (frame_k HD.out.rs (by omega)).mono ?_
  rintro e w3 ⟨v3, q3, rfl, hv30, hv31, hq3, kk⟩
  replace HD := hid (HD.out.draw kk)
  clear kk
  go_wp2_with fail
  refine (of_k HD.out.rs (by omega) [v2, v3, ⟨#[]⟩, ⟨#[116, 104, 105, 114, 116, 101, 101, 110, 98, 121, 116, 101, 115]⟩, ⟨#[116, 119, 101, 108, 118, 101, 32, 98, 121, 116, 101, 115]⟩] (by simp) (by simp)).mono ?_
  rintro e w4 ⟨v, hv, rfl, kk⟩
  have hvs : v.size ≤ 60 := by
    simp only [List.mem_cons, List.not_mem_nil, or_false] at hv
    rcases hv with rfl | rfl | rfl | rfl | rfl
    · omega
    · omega
    · simp [ByteArray.size]
    · simp [ByteArray.size]
    · simp [ByteArray.size]
  have HB := hid (HD.out.draw kk).rs.bel
  clear kk hv HD
  go_wp2_with fail
  go_ret
  exact ⟨v, rfl, hvs, HB.out⟩

set_option maxRecDepth 100000 in
set_option maxHeartbeats 2000000 in
theorem sgTexts_c (xs : List ByteArray) (a1 a2 : Option Addr) (c1 c2 : Nat) (w : World) (hA1 : ArgS w a1 xs) (hA2 : ArgS w a2 xs) (hn : xs.length ≤ 1048576) :
    Calls Try.prog 11 #[.slice a1 xs.length c1, .slice a2 xs.length c2] w fun e w' => e = .returned (.bool true) ∧ Below w.heap.size w w' := by
  go_enter Try.func11, Try.ntmps11
  go_wp2_with fail
  go_loopw [5] (fun i wr => ∃ k : Nat, k ≤ xs.length ∧ i = .int .i64 k ∧ Below w.heap.size w wr) (fun i _ => xs.length - (intOf i).toNat)
  case atStart => exact ⟨0, Nat.zero_le _, rfl, Below.refl _ _⟩
  case round =>
    obtain ⟨k, hk, rfl, hbw⟩ := hrel
    by_cases hlt : k < xs.length
    · have hlt' : (k : Int) < (xs.length : Int) := by omega
      have hk0 : (0 : Int) ≤ (k : Int) := by omega
      obtain ⟨b1, p1, rfl, hb1, h1⟩ := (hA1.below hbw (Nat.le_refl _)).at k hlt
      obtain ⟨b2, p2, rfl, hb2, h2⟩ := (hA2.below hbw (Nat.le_refl _)).at k hlt
      obtain ⟨x, hx⟩ : ∃ x, x = xs[k] := ⟨_, rfl⟩
      rw [← hx] at h1 h2
      clear hx
      go_wp2_with fail
      go_quiet (fail)
      go_wp2_with fail
      go_roundw
      case rel => exact ⟨k + 1, by omega, by go_num, below_drewN hbw _⟩
      case measure => simp [intOf]; omega
    · obtain rfl : k = xs.length := by omega
      go_wp2_with fail
      go_ret
      exact ⟨rfl, hbw⟩
end Go.Proofs.Ytgdefengkacnfaa
