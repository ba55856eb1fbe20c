/- Starts: sizes, held against each other, and whether they are ok. -/
import Derived.Test.YtghcknbpipaghaaSC
namespace Go.Proofs.Ytghcknbpipaghaa
open Go.RowKit
set_option linter.unusedSimpArgs false
set_option linter.unusedVariables false

structure StB (xs : List Q.I6) (came : ByteArray) (ts : List TT) (rs ss : List Int) : Prop where
  x : xs.length ≤ maxLen
  c : came.size ≤ maxLen
  t : ts.length ≤ maxLen
  tt : ∀ t ∈ ts, t.big
  r : rs.length ≤ maxLen
  s : ss.length ≤ maxLen

set_option maxHeartbeats 1000000 in
theorem szX (a : Option Addr) (n cap : Nat) (L : Int) (w : World) (hm : n ≤ maxLen) (h0 : 0 ≤ L) (hL : L ≤ 1048576) :
    Calls Try.prog 9 #[.slice a n cap, .int .i64 L] w fun e w' => SzA (n ≤ 1048576) e ∧ w' = w := by
  unfold maxLen at hm
  by_cases h : (n : Int) ≤ L
  · go_enter Try.func9, Try.ntmps9
    go_wp2
    go_ret
    exact ⟨SzA.yes (by omega) (by omega) (by omega), rfl⟩
  · have h' : L < (n : Int) := by omega
    clear h
    go_enter Try.func9, Try.ntmps9
    go_wp2
    go_ret
    exact ⟨SzA.no, rfl⟩

set_option maxRecDepth 100000 in
set_option maxHeartbeats 4000000 in
theorem szSt (xs : List Q.I6) (came : ByteArray) (ts : List TT) (rs ss : List Int) (a1 a2 a3 a4 : Option Addr) (c1 c2 c3 c4 : Nat) (w : World) (hA : StA w a1 a2 a3 a4 xs ts rs ss) (hN : StB xs came ts rs ss) :
    Calls Try.prog 4 #[.agg #[.slice a1 xs.length c1, .string came, .slice a2 ts.length c2, .slice a3 rs.length c3, .slice a4 ss.length c4], .int .i64 1048576] w fun e w' => SzA (StN xs came ts rs ss) e ∧ Below w.heap.size w w' := by
  have HA : Hid (StA w a1 a2 a3 a4 xs ts rs ss) := hA
  have HN : Hid (StB xs came ts rs ss) := hN
  have hcm := hN.c
  unfold maxLen at hcm
  clear hA hN
  have HB0 := hidI (BoxS.new w (.slice a1 xs.length c1) (.string came) (.slice a2 ts.length c2) (.slice a3 rs.length c3) (.slice a4 ss.length c4) 26)
  have HC0 : Hid (∀ X, Below w.heap.size w (w.alloc X)) := hidI (fun X => (Below.refl _ _).alloc (Nat.le_refl _) _)
  go_enter Try.func4, Try.ntmps4
  go_wp2_with fail
  refine (szX _ _ _ _ _ HN.out.x (by decide) (by decide)).mono ?_
  rintro e w1 ⟨⟨q1, rfl, hq1⟩, rfl⟩
  rcases hq1 with rfl | ⟨hx, hq10, hq11⟩
  · go_wp2_with fail
    go_ret
    exact ⟨SzA.no, HC0.out _⟩
  by_cases hneg : q1 - (came.size : Int) < 0
  · go_wp2_with fail
    go_ret
    exact ⟨SzA.no, HC0.out _⟩
  have hneg' : 0 ≤ q1 - (came.size : Int) := by omega
  have hl1 : q1 - (came.size : Int) ≤ 1048576 := by omega
  clear hneg
  go_wp2_with fail
  refine (szTS ts _ _ _ _ (HA.out.below (HC0.out _)).t HN.out.t HN.out.tt hneg' hl1).mono ?_
  rintro e w2 ⟨⟨q2, rfl, hq2⟩, hb2⟩
  have B2 := HB0.out.below hb2 (by simp)
  have C2 := (HC0.out _).trans (hb2.mono (by simp))
  have HC2 := hidI C2
  clear hb2 C2 HB0
  obtain ⟨x0, x1, x2, x3, x4, xl, xf⟩ := B2
  rcases hq2 with rfl | ⟨⟨ht, htt⟩, hq20, hq21⟩
  · go_wp2_with fail
    go_ret
    exact ⟨SzA.no, HC2.out⟩
  have HTT := hidI htt
  clear htt
  go_wp2_with fail
  refine (szI _ _ _ _ _ HN.out.r hq20 hq21).mono ?_
  rintro e w3 ⟨⟨q3, rfl, hq3⟩, rfl⟩
  rcases hq3 with rfl | ⟨hr, hq30, hq31⟩
  · go_wp2_with fail
    go_ret
    exact ⟨SzA.no, HC2.out⟩
  go_wp2_with fail
  refine (szI _ _ _ _ _ HN.out.s hq30 hq31).mono ?_
  rintro e w4 ⟨⟨q4, rfl, hq4⟩, rfl⟩
  rcases hq4 with rfl | ⟨hs, hq40, hq41⟩
  · go_wp2_with fail
    go_ret
    exact ⟨SzA.no, HC2.out⟩
  go_wp2_with fail
  go_ret
  exact ⟨SzA.yes ⟨hx, ht, HTT.out, hr, hs⟩ hq40 hq41, HC2.out⟩

set_option maxRecDepth 100000 in
set_option maxHeartbeats 4000000 in
theorem eqSt (xs : List Q.I6) (came : ByteArray) (ts : List TT) (rs ss : List Int) (g1 g2 g3 g4 k1 k2 k3 k4 : Nat) (w : World) (hA : StO w g1 g2 g3 g4 xs ts rs ss) (hB : StO w k1 k2 k3 k4 xs ts rs ss) (hN : StN xs came ts rs ss) :
    Calls Try.prog 8 #[.agg #[.slice (some ⟨g1, 0, none⟩) xs.length xs.length, .string came, .slice (some ⟨g2, 0, none⟩) ts.length ts.length, .slice (some ⟨g3, 0, none⟩) rs.length rs.length, .slice (some ⟨g4, 0, none⟩) ss.length ss.length], .agg #[.slice (some ⟨k1, 0, none⟩) xs.length xs.length, .string came, .slice (some ⟨k2, 0, none⟩) ts.length ts.length, .slice (some ⟨k3, 0, none⟩) rs.length rs.length, .slice (some ⟨k4, 0, none⟩) ss.length ss.length]] w fun e w' => e = .returned (.bool true) ∧ Below w.heap.size w w' := by
  have HA : Hid (StO w g1 g2 g3 g4 xs ts rs ss) := hA
  have HB : Hid (StO w k1 k2 k3 k4 xs ts rs ss) := hB
  have HN : Hid (StN xs came ts rs ss) := hN
  clear hA hB hN
  have HC0 : Hid (∀ X Y, Below w.heap.size w ((w.alloc X).alloc Y)) := hidI (fun X Y => ((Below.refl _ _).alloc (Nat.le_refl _) _).alloc (by simp) _)
  have b0 := (BoxS.new w (.slice (some ⟨g1, 0, none⟩) xs.length xs.length) (.string came) (.slice (some ⟨g2, 0, none⟩) ts.length ts.length) (.slice (some ⟨g3, 0, none⟩) rs.length rs.length) (.slice (some ⟨g4, 0, none⟩) ss.length ss.length) 32).alloc (.cells #[.slice (some ⟨k1, 0, none⟩) xs.length xs.length, .string came, .slice (some ⟨k2, 0, none⟩) ts.length ts.length, .slice (some ⟨k3, 0, none⟩) rs.length rs.length, .slice (some ⟨k4, 0, none⟩) ss.length ss.length] 32)
  have b1 := BoxS.new (w.alloc (.cells #[.slice (some ⟨g1, 0, none⟩) xs.length xs.length, .string came, .slice (some ⟨g2, 0, none⟩) ts.length ts.length, .slice (some ⟨g3, 0, none⟩) rs.length rs.length, .slice (some ⟨g4, 0, none⟩) ss.length ss.length] 32)) (.slice (some ⟨k1, 0, none⟩) xs.length xs.length) (.string came) (.slice (some ⟨k2, 0, none⟩) ts.length ts.length) (.slice (some ⟨k3, 0, none⟩) rs.length rs.length) (.slice (some ⟨k4, 0, none⟩) ss.length ss.length) 32
  have HX := hidI b0
  have HY := hidI b1
  clear b0 b1
  go_enter Try.func8, Try.ntmps8
  go_wp2_with fail
  refine (Q.f21 xs _ _ _ _ _ (HA.out.below (HC0.out _ _)).x (HB.out.below (HC0.out _ _)).x HN.out.x (HA.out.below (HC0.out _ _)).l1 (HB.out.below (HC0.out _ _)).l1).mono ?_
  rintro e w1 ⟨rfl, hb1⟩
  have X1 := HX.out.below hb1 (by simp; omega)
  have Y1 := HY.out.below hb1 (by simp)
  have C1 := (HC0.out _ _).trans (hb1.mono (by simp; omega))
  simp only [World.size_alloc] at Y1
  clear HX HY hb1
  have HX := hidI X1
  have HY := hidI Y1
  have HC := hidI C1
  clear C1
  obtain ⟨x0, x1, x2, x3, x4, xl, xf⟩ := X1
  obtain ⟨y0, y1, y2, y3, y4, yl, yf⟩ := Y1
  go_wp2_with fail
  refine (eqTS ts _ _ _ _ _ (HA.out.below HC.out).arg.t (HB.out.below HC.out).arg.t HN.out.t HN.out.tt).mono ?_
  rintro e w2 ⟨rfl, hb2⟩
  have X2 := HX.out.below hb2 xl
  have Y2 := HY.out.below hb2 yl
  have C2 := HC.out.trans (hb2.mono HC.out.size)
  clear HX HY HC hb2 x0 x1 x2 x3 x4 xl xf y0 y1 y2 y3 y4 yl yf
  have HX := hidI X2
  have HY := hidI Y2
  have HC := hidI C2
  clear C2
  obtain ⟨x0, x1, x2, x3, x4, xl, xf⟩ := X2
  obtain ⟨y0, y1, y2, y3, y4, yl, yf⟩ := Y2
  go_wp2_with fail
  refine (f34g rs _ _ _ _ _ (HA.out.below HC.out).arg.r (HB.out.below HC.out).arg.r HN.out.r).mono ?_
  rintro e w3 ⟨rfl, hb3⟩
  have X3 := HX.out.below hb3 xl
  have Y3 := HY.out.below hb3 yl
  have C3 := HC.out.trans (hb3.mono HC.out.size)
  clear HX HY HC hb3 x0 x1 x2 x3 x4 xl xf y0 y1 y2 y3 y4 yl yf
  have HX := hidI X3
  have HY := hidI Y3
  have HC := hidI C3
  clear C3
  obtain ⟨x0, x1, x2, x3, x4, xl, xf⟩ := X3
  obtain ⟨y0, y1, y2, y3, y4, yl, yf⟩ := Y3
  go_wp2_with fail
  refine (f34g ss _ _ _ _ _ (HA.out.below HC.out).arg.s (HB.out.below HC.out).arg.s HN.out.s).mono ?_
  rintro e w4 ⟨rfl, hb4⟩
  have C4 := HC.out.trans (hb4.mono HC.out.size)
  go_wp2_with fail
  go_ret
  exact ⟨rfl, C4⟩

def lastB (f : Int) (c t r s : Nat) : Bool := (f == 0) && ((c : Int) == 12) && decide ((t : Int) ≤ 3) && inB r 1 4 && decide ((s : Int) ≤ 4)
/-- What it is for a start to be ok. -/
def StartP (xs : List Q.I6) (came : ByteArray) (ts : List TT) (rs ss : List Int) : Prop := oksP ts ∧ numsP rs ∧ numsP ss ∧ lastB (Q.formN xs) came.size ts.length rs.length ss.length = true
theorem lastB_of {f : Int} {c t r s : Nat} (h : lastB f c t r s = true) : f = 0 ∧ c = 12 ∧ t ≤ 3 ∧ 1 ≤ r ∧ r ≤ 4 ∧ s ≤ 4 := by
  simp [lastB, inB] at h; omega
theorem lastB_to {f : Int} {c t r s : Nat} (h0 : f = 0) (h1 : c = 12) (h2 : t ≤ 3) (h3 : 1 ≤ r) (h4 : r ≤ 4) (h5 : s ≤ 4) : lastB f c t r s = true := by
  simp [lastB, inB]; omega

set_option maxRecDepth 100000 in
set_option maxHeartbeats 4000000 in
theorem okImpl (xs : List Q.I6) (came : ByteArray) (ts : List TT) (rs ss : List Int) (g1 g2 g3 g4 : Nat) (w : World) (hA : StO w g1 g2 g3 g4 xs ts rs ss) (hN : StN xs came ts rs ss) :
    Calls Try.prog 7 #[.agg #[.slice (some ⟨g1, 0, none⟩) xs.length xs.length, .string came, .slice (some ⟨g2, 0, none⟩) ts.length ts.length, .slice (some ⟨g3, 0, none⟩) rs.length rs.length, .slice (some ⟨g4, 0, none⟩) ss.length ss.length]] w fun e w' => Ans e (StartP xs came ts rs ss) ∧ Below w.heap.size w w' := by
  have HA : Hid (StO w g1 g2 g3 g4 xs ts rs ss) := hA
  have HN : Hid (StN xs came ts rs ss) := hN
  clear hA hN
  have HC0 : Hid (∀ X, Below w.heap.size w (w.alloc X)) := hidI (fun X => (Below.refl _ _).alloc (Nat.le_refl _) _)
  have HX0 := hidI (BoxS.new w (.slice (some ⟨g1, 0, none⟩) xs.length xs.length) (.string came) (.slice (some ⟨g2, 0, none⟩) ts.length ts.length) (.slice (some ⟨g3, 0, none⟩) rs.length rs.length) (.slice (some ⟨g4, 0, none⟩) ss.length ss.length) 32)
  obtain ⟨f, hf⟩ : ∃ f, f = Q.formN xs := ⟨_, rfl⟩
  have HF := hidI hf
  have HP0 : Hid (¬ lastB (Q.formN xs) came.size ts.length rs.length ss.length = true → ¬ StartP xs came ts rs ss) := hidI (fun h h2 => h h2.2.2.2)
  go_enter Try.func7, Try.ntmps7
  go_wp2_with fail
  refine (Q.f20 xs _ _ _ _ (HA.out.below (HC0.out _)).x HN.out.x (HA.out.below (HC0.out _)).l1).mono ?_
  rintro e w1 ⟨rfl, hb1⟩
  rw [← hf]
  clear hf
  have X1 := HX0.out.below hb1 (by simp)
  have C1 := (HC0.out _).trans (hb1.mono (by simp))
  clear HX0 hb1
  have HX := hidI X1
  have HC := hidI C1
  clear C1
  obtain ⟨x0, x1, x2, x3, x4, xl, xf⟩ := X1
  cases h1 : (f == 0)
  · go_wp2_with fail
    go_ret
    exact ⟨Ans.no (fun h => HP0.out (fun q => by have := (lastB_of q).1; rw [← HF.out] at this; simp [this] at h1) h), HC.out⟩
  have hf0 : f = 0 := by simpa using h1
  have HF0 := hidI hf0
  clear hf0
  cases h2 : ((came.size : Int) == 12)
  · go_wp2_with fail
    go_ret
    exact ⟨Ans.no (fun h => HP0.out (fun q => by have := (lastB_of q).2.1; simp at h2; omega) h), HC.out⟩
  have hc0 : came.size = 12 := by simp at h2; omega
  have HCM := hidI hc0
  clear hc0
  go_wp2_with fail
  refine (tabsOk ts _ _ _ (HA.out.below HC.out).arg.t HN.out.t HN.out.tt).mono ?_
  rintro e w2 ⟨⟨q2, rfl, hq2⟩, hb2⟩
  have HQ2 := hidI hq2
  clear hq2
  have X2 := HX.out.below hb2 xl
  have C2 := HC.out.trans (hb2.mono HC.out.size)
  clear HX HC hb2 x0 x1 x2 x3 x4 xl xf
  have HX := hidI X2
  have HC := hidI C2
  clear C2
  obtain ⟨x0, x1, x2, x3, x4, xl, xf⟩ := X2
  cases q2
  · go_wp2_with fail
    go_ret
    exact ⟨Ans.no (fun h => by have := HQ2.out.2 ⟨h.1, (lastB_of h.2.2.2).2.2.1⟩; cases this), HC.out⟩
  have HT2 : Hid (oksP ts ∧ ts.length ≤ 3) := hidI (HQ2.out.1 rfl)
  clear HQ2
  by_cases h3' : (rs.length : Int) < 1
  · skip
    have HH : Hid (¬ StartP xs came ts rs ss) := hidI (fun h => by have := (lastB_of h.2.2.2).2.2.2.1; omega)
    go_wp2_with fail
    go_ret
    exact ⟨Ans.no HH.out, HC.out⟩
  have h3 : 1 ≤ (rs.length : Int) := by omega
  clear h3'
  by_cases h4' : 4 < (rs.length : Int)
  · skip
    have HH : Hid (¬ StartP xs came ts rs ss) := hidI (fun h => by have := (lastB_of h.2.2.2).2.2.2.2.1; omega)
    go_wp2_with fail
    go_ret
    exact ⟨Ans.no HH.out, HC.out⟩
  have h4 : (rs.length : Int) ≤ 4 := by omega
  clear h4'
  go_wp2_with fail
  refine (numsOk rs _ _ _ (HA.out.below HC.out).arg.r HN.out.r).mono ?_
  rintro e w3 ⟨⟨q3, rfl, hq3⟩, hw3⟩
  rw [hw3]
  clear hw3 w3
  have HQ3 := hidI hq3
  clear hq3
  cases q3
  · go_wp2_with fail
    go_ret
    exact ⟨Ans.no (fun h => by have := HQ3.out.2 h.2.1; cases this), HC.out⟩
  have HT3 : Hid (numsP rs) := hidI (HQ3.out.1 rfl)
  clear HQ3
  by_cases h5' : 4 < (ss.length : Int)
  · skip
    have HH : Hid (¬ StartP xs came ts rs ss) := hidI (fun h => by have := (lastB_of h.2.2.2).2.2.2.2.2; omega)
    go_wp2_with fail
    go_ret
    exact ⟨Ans.no HH.out, HC.out⟩
  have h5 : (ss.length : Int) ≤ 4 := by omega
  clear h5'
  go_wp2_with fail
  refine (numsOk ss _ _ _ (HA.out.below HC.out).arg.s HN.out.s).mono ?_
  rintro e w4 ⟨⟨q4, rfl, hq4⟩, hw4⟩
  rw [hw4]
  clear hw4 w4
  have HQ4 := hidI hq4
  clear hq4
  have HYES : Hid (numsP ss → StartP xs came ts rs ss) := hidI (fun h => ⟨HT2.out.1, HT3.out, h, lastB_to (by rw [← HF.out]; exact HF0.out) HCM.out HT2.out.2 (by omega) (by omega) (by omega)⟩)
  go_wp2_with fail
  go_ret
  exact ⟨⟨q4, rfl, fun h => HYES.out (HQ4.out.1 h), fun h => HQ4.out.2 h.2.2.1⟩, HC.out⟩

end Go.Proofs.Ytghcknbpipaghaa
