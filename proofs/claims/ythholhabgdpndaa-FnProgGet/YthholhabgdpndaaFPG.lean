/- FnProgGet: what is read as a program can be one, and is written just so. -/
import Derived.Test.YthholhabgdpndaaPX
import Derived.Test.YthholhabgdpndaaFPP
namespace Go.Proofs.Ythholhabgdpndaa
open Go.RowKit
set_option linter.unusedVariables false
set_option linter.unusedSimpArgs false

set_option maxRecDepth 100000 in
set_option maxHeartbeats 4000000 in
theorem drawProgGet_w (w : World) (a : Option Addr) (len cap : Nat) (hc : len ≤ cap) (hs : Src w a len) (hl : cap < 2 ^ 63) :
    Calls Try.prog 22 #[.slice a len cap] w fun e w' => AnT 2100 e ∧ Below w.heap.size w w' := by
  have HS := hid hs
  clear hs
  go_enter Try.func22, Try.ntmps22
  go_wp2_with fail
  refine (open_s w a len cap hc HS.out hl).mono ?_
  rintro e w1 ⟨n, rfl, h1⟩
  have HR := hid h1
  clear h1
  go_wp2_with fail
  refine (prog_k HR.out (by omega)).mono ?_
  rintro e w2 ⟨⟨xs, x, n, c, rfl, hxl, hn1, hn2, hr⟩, q, hq, kk⟩
  subst hxl
  have HA := hid (own_argN hr rfl)
  have HD := hid kk
  clear kk HR hr
  go_wp2_with fail
  refine (pput_s xs x c _ HA.out (by omega)).mono ?_
  rintro e w3 ⟨rfl, b3⟩
  replace HD := hid (HD.out.below b3)
  clear b3 HA
  have hsz : (progS xs).size ≤ 1000 := by
    unfold progS
    split
    · rw [cat_size]; omega
    · decide
  generalize progS xs = s at *
  go_wp2_with fail
  refine (pick_k HD.out.rs (by omega) 3 (by omega) (by omega)).mono ?_
  rintro e w4 ⟨m, rfl, hm, kk⟩
  replace HD := hid (HD.out.draw kk)
  clear kk
  have hm0 : (0 : Int) ≤ (m : Int) := by omega
  generalize (m : Int) = y at *
  by_cases hy : 0 < y
  · go_wp2_with fail
    go_ret
    exact ⟨⟨s, rfl, by omega⟩, HD.out.rs.bel⟩
  · go_wp2_with fail
    refine (bent_k HD.out.rs (by omega) s hsz).mono ?_
    rintro e w5 ⟨⟨t, rfl, ht⟩, q5, hq5, kk⟩
    replace HD := hid (HD.out.draw kk)
    clear kk
    go_wp2_with fail
    go_ret
    exact ⟨⟨t, rfl, ht⟩, HD.out.rs.bel⟩

set_option maxRecDepth 100000 in
set_option maxHeartbeats 4000000 in
theorem law_fnProgGet (w : World) (a : Option Addr) (len cap : Nat) (hc : len ≤ cap) (hs : Src w a len) (hl : cap < 2 ^ 63) :
    Calls Try.prog 6 #[.slice a len cap] w fun e w' => e = .returned (.bool true) ∧ Below w.heap.size w w' := by
  have HS := hid hs
  clear hs
  go_enter Try.func6, Try.ntmps6
  go_wp2_with fail
  · go_ret
    exact ⟨rfl, Below.refl _ _⟩
  refine (drawProgGet_w w a len cap hc HS.out hl).mono ?_
  rintro e w1 ⟨⟨s, rfl, hsb⟩, hb1⟩
  have HB := hid hb1
  clear hb1 HS
  go_wp2_with fail
  refine (f25 s _ (by omega)).mono ?_
  rintro e w2 ⟨v2, rfl, hp2, b2⟩
  replace HB := hid (HB.out.to b2)
  clear b2
  cases hg : progG s with
  | none =>
    rw [hg] at hp2
    have e2 : v2 = .tuple #[.slice none 0 0, .bool false] := hp2
    subst e2
    clear hp2
    go_wp2_with fail
    refine (f24 s _ (by omega)).mono ?_
    rintro e w3 ⟨v3, rfl, hp3, b3⟩
    replace HB := hid (HB.out.to b3)
    rw [hg] at hp3
    have e3 : v3 = .tuple #[.slice none 0 0, .bool false] := hp3
    subst e3
    clear hp3 b3 hg
    go_wp2_with fail
    refine (sg_w [] none none 0 0 _ (.inl rfl) (.inl rfl) (by simp)).mono ?_
    rintro e w4 ⟨rfl, b4⟩
    replace HB := hid (HB.out.to b4)
    clear b4
    go_wp2_with fail
    refine (sg_w [] none none 0 0 _ (.inl rfl) (.inl rfl) (by simp)).mono ?_
    rintro e w5 ⟨rfl, b5⟩
    replace HB := hid (HB.out.to b5)
    clear b5
    go_wp2_with fail
    go_ret
    exact ⟨by simp_all, HB.out⟩
  | some xs =>
    rw [hg] at hp2
    obtain ⟨g2, c2, rfl, -, hl2, hr2, -⟩ := hp2
    have HA : Hid (ArgRow w2 (some ⟨g2, 0, none⟩) xs) := .inr ⟨g2, 0, rfl, hl2, hr2⟩
    clear hl2 hr2
    obtain ⟨hf, hcat⟩ := progG_back hg
    have hxl := form_small hf
    have HF := hid hf
    have HP : Hid (progS xs = s) := by show _ = _; rw [progS, if_pos hf, hcat]
    clear hf hcat
    go_wp2_with fail
    refine (f24 s _ (by omega)).mono ?_
    rintro e w3 ⟨v3, rfl, hp3, b3⟩
    replace HB := hid (HB.out.to b3)
    replace HA := hid (HA.out.below b3 (Nat.le_refl _))
    rw [hg] at hp3
    obtain ⟨g3, c3, rfl, -, hl3, hr3, -⟩ := hp3
    have HC : Hid (ArgRow w3 (some ⟨g3, 0, none⟩) xs) := .inr ⟨g3, 0, rfl, hl3, hr3⟩
    clear hl3 hr3 b3 hg
    go_wp2_with fail
    refine (sg_w xs _ _ _ _ _ HA.out HC.out (by omega)).mono ?_
    rintro e w4 ⟨rfl, b4⟩
    replace HB := hid (HB.out.to b4)
    replace HA := hid (HA.out.below b4 (Nat.le_refl _))
    clear b4 HC
    go_wp2_with fail
    refine (pput_i xs _ _ _ HA.out (by omega)).mono ?_
    rw [HP.out]
    rintro e w5 ⟨rfl, b5⟩
    replace HB := hid (HB.out.to b5)
    replace HA := hid (HA.out.below b5 (Nat.le_refl _))
    clear b5
    go_wp2_with fail
    refine (form_i xs _ _ _ HA.out (by omega)).mono ?_
    rw [HF.out]
    rintro e w6 ⟨rfl, b6⟩
    replace HB := hid (HB.out.to b6)
    clear b6
    go_wp2_with fail
    go_ret
    exact ⟨by simp_all, HB.out⟩
end Go.Proofs.Ythholhabgdpndaa
