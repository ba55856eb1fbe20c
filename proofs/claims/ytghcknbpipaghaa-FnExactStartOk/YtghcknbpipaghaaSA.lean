/- Rows of tables: sizes, copies, and held against each other. -/
import Derived.Test.YtghcknbpipaghaaTE
namespace Go.Proofs.Ytghcknbpipaghaa
open Go.RowKit
set_option linter.unusedSimpArgs false
set_option linter.unusedVariables false

set_option maxRecDepth 100000 in
set_option maxHeartbeats 2000000 in
theorem f34g (xs : List Int) (a1 a2 : Option Addr) (c1 c2 : Nat) (w : World) (hA1 : ArgI w a1 xs) (hA2 : ArgI w a2 xs) (hn : xs.length ≤ 1048576) :
    Calls Try.prog 21 #[.slice a1 xs.length c1, .slice a2 xs.length c2] w fun e w' => e = .returned (.bool true) ∧ Below w.heap.size w w' := by
  go_enter Try.func21, Try.ntmps21
  go_wp2_with fail
  go_loopw [5] (fun i wr => ∃ k : Nat, k ≤ xs.length ∧ i = .int .i64 k ∧ Below w.heap.size w wr) (fun i _ => xs.length - (intOf i).toNat)
  case atStart => exact ⟨0, Nat.zero_le _, rfl, Below.refl _ _⟩
  case round =>
    obtain ⟨k, hk, rfl, hbw⟩ := hrel
    by_cases hlt : k < xs.length
    · have hlt' : (k : Int) < (xs.length : Int) := by omega
      have hk0 : (0 : Int) ≤ (k : Int) := by omega
      obtain ⟨b1, p1, rfl, hb1, h1⟩ := (hA1.below hbw (Nat.le_refl _)).at k hlt
      obtain ⟨b2, p2, rfl, hb2, h2⟩ := (hA2.below hbw (Nat.le_refl _)).at k hlt
      obtain ⟨x, hx⟩ : ∃ x, x = xs[k] := ⟨_, rfl⟩
      rw [← hx] at h1 h2
      clear hx
      go_wp2_with fail
      go_quiet (fail)
      go_wp2_with fail
      go_roundw
      case rel => exact ⟨k + 1, by omega, by go_num, below_drewN hbw _⟩
      case measure => simp [intOf]; omega
    · obtain rfl : k = xs.length := by omega
      go_wp2_with fail
      go_ret
      exact ⟨rfl, hbw⟩

set_option maxRecDepth 100000 in
set_option maxHeartbeats 2000000 in
theorem f35g (xs : List ByteArray) (a1 a2 : Option Addr) (c1 c2 : Nat) (w : World) (hA1 : ArgS w a1 xs) (hA2 : ArgS w a2 xs) (hn : xs.length ≤ 1048576) :
    Calls Try.prog 51 #[.slice a1 xs.length c1, .slice a2 xs.length c2] w fun e w' => e = .returned (.bool true) ∧ Below w.heap.size w w' := by
  go_enter Try.func51, Try.ntmps51
  go_wp2_with fail
  go_loopw [5] (fun i wr => ∃ k : Nat, k ≤ xs.length ∧ i = .int .i64 k ∧ Below w.heap.size w wr) (fun i _ => xs.length - (intOf i).toNat)
  case atStart => exact ⟨0, Nat.zero_le _, rfl, Below.refl _ _⟩
  case round =>
    obtain ⟨k, hk, rfl, hbw⟩ := hrel
    by_cases hlt : k < xs.length
    · have hlt' : (k : Int) < (xs.length : Int) := by omega
      have hk0 : (0 : Int) ≤ (k : Int) := by omega
      obtain ⟨b1, p1, rfl, hb1, h1⟩ := (hA1.below hbw (Nat.le_refl _)).at k hlt
      obtain ⟨b2, p2, rfl, hb2, h2⟩ := (hA2.below hbw (Nat.le_refl _)).at k hlt
      obtain ⟨x, hx⟩ : ∃ x, x = xs[k] := ⟨_, rfl⟩
      rw [← hx] at h1 h2
      clear hx
      go_wp2_with fail
      go_quiet (fail)
      go_wp2_with fail
      go_roundw
      case rel => exact ⟨k + 1, by omega, by go_num, below_drewN hbw _⟩
      case measure => simp [intOf]; omega
    · obtain rfl : k = xs.length := by omega
      go_wp2_with fail
      go_ret
      exact ⟨rfl, hbw⟩

set_option maxRecDepth 100000 in
set_option maxHeartbeats 2000000 in
theorem f13g (k s r : Int) (ks : List Int) (vs : List ByteArray) (a1 a2 b1 b2 : Option Addr) (c1 c2 e1 e2 : Nat) (w : World) (hA1 : ArgI w a1 ks) (hA2 : ArgI w a2 ks) (hB1 : ArgS w b1 vs) (hB2 : ArgS w b2 vs) (hn : ks.length ≤ 1048576) (hm : vs.length ≤ 1048576) :
    Calls Try.prog 36 #[.agg #[.int .i64 k, .int .i64 s, .int .i64 r, .slice a1 ks.length c1, .slice b1 vs.length e1], .agg #[.int .i64 k, .int .i64 s, .int .i64 r, .slice a2 ks.length c2, .slice b2 vs.length e2]] w
      fun e w' => e = .returned (.bool true) ∧ Below w.heap.size w w' := by
  have c0 : ∀ X Y, Below w.heap.size w ((w.alloc X).alloc Y) := fun X Y => ((Below.refl _ _).alloc (Nat.le_refl _) _).alloc (by simp) _
  have H1 : Hid (ArgI w a1 ks) := hA1
  have H2 : Hid (ArgI w a2 ks) := hA2
  have H3 : Hid (ArgS w b1 vs) := hB1
  have H4 : Hid (ArgS w b2 vs) := hB2
  clear hA1 hA2 hB1 hB2
  go_enter Try.func36, Try.ntmps36
  go_wp2_with fail
  refine (f34g ks _ _ _ _ _ (ArgI.below H1.out (c0 _ _) (Nat.le_refl _)) (ArgI.below H2.out (c0 _ _) (Nat.le_refl _)) hn).mono ?_
  rintro e w1 ⟨rfl, hw1⟩
  obtain ⟨hc1, hf1⟩ := bcell hw1
  have z1 := hw1.size
  simp only [World.size_alloc] at z1 hc1 hf1
  have q1 : w.heap.size < w1.heap.size := by omega
  have q2 : w.heap.size + 1 < w1.heap.size := by omega
  have k1 : Below w.heap.size w w1 := (c0 _ _).trans (hw1.mono (by simp; omega))
  go_wp2_with fail
  refine (f35g vs _ _ _ _ _ (ArgS.below H3.out k1 (Nat.le_refl _)) (ArgS.below H4.out k1 (Nat.le_refl _)) hm).mono ?_
  rintro e w2 ⟨rfl, hw2⟩
  go_wp2_with fail
  go_ret
  exact ⟨rfl, k1.trans (hw2.mono (by omega))⟩

theorem hidI {p : Prop} (h : p) : Hid p := h
/-- A table: its numbers, keys and values. -/
structure TT where
  k : Int
  s : Int
  r : Int
  ks : List Int
  vs : List ByteArray
def TT.small (t : TT) : Prop := t.ks.length ≤ 1048576 ∧ t.vs.length ≤ 1048576
/-- A table that stands at offset q of block b. -/
def TabAt (w : World) (b q : Nat) (t : TT) : Prop := ∃ (a a' : Option Addr) (c c' : Nat),
  w.cell? ⟨b, q, none⟩ = some (.int .i64 t.k) ∧ w.cell? ⟨b, q + 1, none⟩ = some (.int .i64 t.s) ∧ w.cell? ⟨b, q + 2, none⟩ = some (.int .i64 t.r) ∧
  w.cell? ⟨b, q + 3, none⟩ = some (.slice a t.ks.length c) ∧ w.cell? ⟨b, q + 4, none⟩ = some (.slice a' t.vs.length c') ∧ ArgI w a t.ks ∧ ArgS w a' t.vs ∧ t.ks.length ≤ c
def TabRow (w : World) (b p : Nat) (ts : List TT) : Prop := ∀ k (h : k < ts.length), TabAt w b (p + k * 5) ts[k]
def ArgT (w : World) (a : Option Addr) (ts : List TT) : Prop := ts = [] ∨ ∃ b p, a = some ⟨b, p, none⟩ ∧ b < w.heap.size ∧ TabRow w b p ts
theorem TabAt.below {w w' : World} {b q B : Nat} {t : TT} (h : TabAt w b q t) (hb : Below B w w') (hB : w.heap.size ≤ B) (hlt : b < w.heap.size) : TabAt w' b q t := by
  obtain ⟨a, a', c, c', h0, h1, h2, h3, h4, hA, hS, hc⟩ := h
  have e : b < B := by omega
  exact ⟨a, a', c, c', (hb.cell e).trans h0, (hb.cell e).trans h1, (hb.cell e).trans h2, (hb.cell e).trans h3, (hb.cell e).trans h4, hA.below hb hB, hS.below hb hB, hc⟩
theorem TabRow.below {w w' : World} {b p B : Nat} {ts : List TT} (h : TabRow w b p ts) (hb : Below B w w') (hB : w.heap.size ≤ B) (hlt : b < w.heap.size) : TabRow w' b p ts := fun k hk => (h k hk).below hb hB hlt
theorem ArgT.below {w w' : World} {a : Option Addr} {ts : List TT} {B : Nat} (h : ArgT w a ts) (hb : Below B w w') (hB : w.heap.size ≤ B) : ArgT w' a ts := by
  rcases h with h | ⟨b, p, rfl, hlt, hr⟩
  · exact .inl h
  · exact .inr ⟨b, p, rfl, by have := hb.size; omega, hr.below hb hB hlt⟩
theorem ArgT.at {w : World} {a : Option Addr} {ts : List TT} (h : ArgT w a ts) (k : Nat) (hk : k < ts.length) : ∃ b p, a = some ⟨b, p, none⟩ ∧ b < w.heap.size ∧ TabAt w b (p + k * 5) ts[k] := by
  rcases h with rfl | ⟨b, p, rfl, hlt, hr⟩
  · simp at hk
  · exact ⟨b, p, rfl, hlt, hr k hk⟩

/-! sizes -/
def SzA (P : Prop) (e : Ending) : Prop := ∃ r : Int, e = .returned (.int .i64 r) ∧ (r = -1 ∨ P ∧ 0 ≤ r ∧ r ≤ 1048576)
theorem SzA.no {P : Prop} : SzA P (.returned (.int .i64 (-1))) := ⟨-1, rfl, .inl rfl⟩
theorem SzA.yes {P : Prop} {r : Int} (h : P) (h0 : 0 ≤ r) (h1 : r ≤ 1048576) : SzA P (.returned (.int .i64 r)) := ⟨r, rfl, .inr ⟨h, h0, h1⟩⟩
set_option maxHeartbeats 1000000 in
theorem szI (a : Option Addr) (n cap : Nat) (L : Int) (w : World) (hm : n ≤ maxLen) (h0 : 0 ≤ L) (hL : L ≤ 1048576) :
    Calls Try.prog 11 #[.slice a n cap, .int .i64 L] w fun e w' => SzA (n ≤ 1048576) e ∧ w' = w := by
  unfold maxLen at hm
  by_cases h : (n : Int) ≤ L
  · go_enter Try.func11, Try.ntmps11
    go_wp2
    go_ret
    exact ⟨SzA.yes (by omega) (by omega) (by omega), rfl⟩
  · have h' : L < (n : Int) := by omega
    clear h
    go_enter Try.func11, Try.ntmps11
    go_wp2
    go_ret
    exact ⟨SzA.no, rfl⟩

set_option maxRecDepth 100000 in
set_option maxHeartbeats 2000000 in
theorem szS (a : Option Addr) (ss : List ByteArray) (cap : Nat) (L : Int) (w : World) (h0 : 0 ≤ L) (hL : L ≤ 1048576) (hA : ArgS w a ss) (hm : ss.length ≤ maxLen) (hss : ∀ s ∈ ss, s.size ≤ maxLen) :
    Calls Try.prog 37 #[.slice a ss.length cap, .int .i64 L] w fun e w' => SzA (ss.length ≤ 1048576) e ∧ w' = w := by
  unfold maxLen at hm
  by_cases h : (ss.length : Int) ≤ L
  · go_enter Try.func37, Try.ntmps37
    go_wp2_with fail
    go_loop [1, 5] (fun l i => ∃ (k : Nat) (q : Int), k ≤ ss.length ∧ i = .int .i64 k ∧ l = .int .i64 q ∧ 0 ≤ q ∧ q ≤ 1048576) (fun _ i => ss.length - (intOf i).toNat)
    case atStart => exact ⟨0, _, Nat.zero_le _, rfl, rfl, by omega, by omega⟩
    case round =>
      obtain ⟨k, q, hk, rfl, rfl, hq0, hq1⟩ := hrel
      by_cases hlt : k < ss.length
      · have hlt' : (k : Int) < (ss.length : Int) := by omega
        obtain ⟨b, p, rfl, hb, hc⟩ := hA.at k hlt
        obtain ⟨x, hx⟩ : ∃ x, x = ss[k] := ⟨_, rfl⟩
        have hz : x.size ≤ maxLen := by rw [hx]; exact hss _ (List.getElem_mem _)
        unfold maxLen at hz
        rw [← hx] at hc
        clear hx
        by_cases hneg : q - (x.size : Int) < 0
        · go_wp2_with fail
          go_ret
          exact ⟨SzA.no, rfl⟩
        · have hneg' : 0 ≤ q - (x.size : Int) := by omega
          clear hneg
          go_wp2_with fail
          go_round
          case rel => exact ⟨k + 1, _, by omega, by go_num, rfl, by omega, by omega⟩
          case measure => simp [intOf]; omega
      · obtain rfl : k = ss.length := by omega
        go_wp2_with fail
        go_ret
        exact ⟨SzA.yes (by omega) (by omega) (by omega), rfl⟩
  · have h' : L < (ss.length : Int) := by omega
    clear h
    go_enter Try.func37, Try.ntmps37
    go_wp2_with fail
    go_ret
    exact ⟨SzA.no, rfl⟩

set_option maxRecDepth 100000 in
set_option maxHeartbeats 2000000 in
theorem szT (k s r : Int) (ks : List Int) (vs : List ByteArray) (a b : Option Addr) (c d : Nat) (L : Int) (w : World) (hB : ArgS w b vs) (hm : ks.length ≤ maxLen) (hm2 : vs.length ≤ maxLen) (hss : ∀ s ∈ vs, s.size ≤ maxLen) (h0 : 0 ≤ L) (hL : L ≤ 1048576) :
    Calls Try.prog 22 #[.agg #[.int .i64 k, .int .i64 s, .int .i64 r, .slice a ks.length c, .slice b vs.length d], .int .i64 L] w fun e w' => SzA (ks.length ≤ 1048576 ∧ vs.length ≤ 1048576) e ∧ Below w.heap.size w w' := by
  have HB : Hid (ArgS w b vs) := hB
  clear hB
  go_enter Try.func22, Try.ntmps22
  go_wp2_with fail
  refine (szI _ _ _ _ _ hm h0 hL).mono ?_
  rintro e w1 ⟨⟨q, rfl, hq⟩, rfl⟩
  rcases hq with rfl | ⟨hk, hq0, hq1⟩
  · go_wp2_with fail
    go_ret
    exact ⟨SzA.no, (Below.refl _ _).alloc (Nat.le_refl _) _⟩
  · go_wp2_with fail
    refine (szS _ vs _ _ _ hq0 hq1 (ArgS.below HB.out ((Below.refl _ _).alloc (Nat.le_refl _) _) (Nat.le_refl _)) hm2 hss).mono ?_
    rintro e w2 ⟨⟨q2, rfl, hq2⟩, rfl⟩
    rcases hq2 with rfl | ⟨hk2, hq20, hq21⟩
    · go_wp2_with fail
      go_ret
      exact ⟨SzA.no, (Below.refl _ _).alloc (Nat.le_refl _) _⟩
    · go_wp2_with fail
      go_ret
      exact ⟨SzA.yes ⟨hk, hk2⟩ hq20 hq21, (Below.refl _ _).alloc (Nat.le_refl _) _⟩

/-- What an argument's tables are bounded by. -/
def TT.big (t : TT) : Prop := t.ks.length ≤ maxLen ∧ t.vs.length ≤ maxLen ∧ ∀ s ∈ t.vs, s.size ≤ maxLen

set_option maxRecDepth 100000 in
set_option maxHeartbeats 2000000 in
theorem szTS (ts : List TT) (a : Option Addr) (cap : Nat) (L : Int) (w : World) (hA : ArgT w a ts) (hm : ts.length ≤ maxLen) (hbig : ∀ t ∈ ts, t.big) (h0 : 0 ≤ L) (hL : L ≤ 1048576) :
    Calls Try.prog 10 #[.slice a ts.length cap, .int .i64 L] w fun e w' => SzA (ts.length ≤ 1048576 ∧ ∀ t ∈ ts, t.small) e ∧ Below w.heap.size w w' := by
  have HA : Hid (ArgT w a ts) := hA
  have HB : Hid (∀ t ∈ ts, t.big) := hbig
  clear hA hbig
  unfold maxLen at hm
  by_cases h : (ts.length : Int) ≤ L
  · go_enter Try.func10, Try.ntmps10
    go_wp2_with fail
    go_loopw [1, 5] (fun l i wr => ∃ (k : Nat) (q : Int), k ≤ ts.length ∧ i = .int .i64 k ∧ l = .int .i64 q ∧ 0 ≤ q ∧ q ≤ 1048576 ∧ Below w.heap.size w wr ∧ Hid (∀ j (hj : j < ts.length), j < k → ts[j].small)) (fun _ i _ => ts.length - (intOf i).toNat)
    case atStart => exact ⟨0, _, Nat.zero_le _, rfl, rfl, by omega, by omega, Below.refl _ _, hidI (fun _ _ h => absurd h (by omega))⟩
    case round =>
      obtain ⟨k, q, hk, rfl, rfl, hq0, hq1, hbw, HD⟩ := hrel
      by_cases hlt : k < ts.length
      · have hlt' : (k : Int) < (ts.length : Int) := by omega
        obtain ⟨b, p, rfl, hb, ht⟩ := (HA.out.below hbw (Nat.le_refl _)).at k hlt
        have hbg : ts[k].big := HB.out _ (List.getElem_mem _)
        have HS : Hid (ts[k].small → ∀ j (hj : j < ts.length), j < k + 1 → ts[j].small) := hidI (fun h0 j hj hjk => by
          by_cases e : j = k
          · subst e; exact h0
          · exact HD.out j hj (by omega))
        clear HD
        obtain ⟨t, ht0⟩ : ∃ t, t = ts[k] := ⟨_, rfl⟩
        rw [← ht0] at ht hbg HS
        clear ht0
        obtain ⟨ta, ta', tc, tc', t0, t1, t2, t3, t4, hI, hS, htc⟩ := ht
        obtain ⟨g0, g1, g2⟩ := hbg
        go_wp2_with fail
        refine (szT t.k t.s t.r t.ks t.vs _ _ _ _ _ _ hS g0 g1 g2 hq0 hq1).mono ?_
        rintro e w2 ⟨⟨q2, rfl, hq2⟩, hb2⟩
        have c2 : Below w.heap.size w w2 := hbw.trans (hb2.mono hbw.size)
        clear hb2
        rcases hq2 with rfl | ⟨hk2, hq20, hq21⟩
        · go_wp2_with fail
          go_ret
          exact ⟨SzA.no, c2⟩
        · go_wp2_with fail
          go_roundw
          case rel => exact ⟨k + 1, _, by omega, by go_num, rfl, by omega, by omega, c2, hidI (HS.out hk2)⟩
          case measure => simp [intOf]; omega
      · obtain rfl : k = ts.length := by omega
        go_wp2_with fail
        go_ret
        refine ⟨SzA.yes ⟨by omega, fun t ht => ?_⟩ (by omega) (by omega), hbw⟩
        obtain ⟨j, hj, rfl⟩ := List.getElem_of_mem ht
        exact HD.out j hj hj
  · have h' : L < (ts.length : Int) := by omega
    clear h
    go_enter Try.func10, Try.ntmps10
    go_wp2_with fail
    go_ret
    exact ⟨SzA.no, Below.refl _ _⟩

/-! copies -/
/-- A table of a copy: its lists lie in blocks of their own, behind g. -/
def TabOwn (w : World) (g q : Nat) (t : TT) : Prop := ∃ g1 g2 : Nat,
  w.cell? ⟨g, q, none⟩ = some (.int .i64 t.k) ∧ w.cell? ⟨g, q + 1, none⟩ = some (.int .i64 t.s) ∧ w.cell? ⟨g, q + 2, none⟩ = some (.int .i64 t.r) ∧
  w.cell? ⟨g, q + 3, none⟩ = some (.slice (some ⟨g1, 0, none⟩) t.ks.length t.ks.length) ∧ w.cell? ⟨g, q + 4, none⟩ = some (.slice (some ⟨g2, 0, none⟩) t.vs.length t.vs.length) ∧
  IntRow w g1 0 t.ks ∧ StrRow w g2 0 t.vs ∧ g < g1 ∧ g < g2 ∧ g1 < w.heap.size ∧ g2 < w.heap.size
theorem TabOwn.tab {w : World} {g q : Nat} {t : TT} (h : TabOwn w g q t) : TabAt w g q t := by
  obtain ⟨g1, g2, h0, h1, h2, h3, h4, hi, hs, _, _, hl1, hl2⟩ := h
  exact ⟨_, _, _, _, h0, h1, h2, h3, h4, .inr ⟨g1, 0, rfl, hl1, hi⟩, .inr ⟨g2, 0, rfl, hl2, hs⟩, Nat.le_refl _⟩
theorem TabOwn.below {w w' : World} {g q : Nat} {t : TT} (h : TabOwn w g q t) (hb : Below w.heap.size w w') (hg : g < w.heap.size) : TabOwn w' g q t := by
  obtain ⟨g1, g2, h0, h1, h2, h3, h4, hi, hs, n1, n2, hl1, hl2⟩ := h
  have z := hb.size
  exact ⟨g1, g2, (hb.cell hg).trans h0, (hb.cell hg).trans h1, (hb.cell hg).trans h2, (hb.cell hg).trans h3, (hb.cell hg).trans h4, hi.below hb hl1, hs.below hb hl2, n1, n2, by omega, by omega⟩
/-- A table stored at offset q of block g. -/
def sv5 (w : World) (g q : Nat) (t : TT) (g1 g2 : Nat) : World :=
  ((((w.setCell ⟨g, q, none⟩ (.int .i64 t.k)).setCell ⟨g, q + 1, none⟩ (.int .i64 t.s)).setCell ⟨g, q + 2, none⟩ (.int .i64 t.r)).setCell ⟨g, q + 3, none⟩ (.slice (some ⟨g1, 0, none⟩) t.ks.length t.ks.length)).setCell ⟨g, q + 4, none⟩ (.slice (some ⟨g2, 0, none⟩) t.vs.length t.vs.length)
theorem sv5_room {w : World} {g m q g1 g2 : Nat} {t : TT} (h : Room w g m) : Room (sv5 w g q t g1 g2) g m := ((((h.set _ _).set _ _).set _ _).set _ _).set _ _
theorem sv5_other {w : World} {g q g1 g2 r : Nat} {t : TT} (h : r < q ∨ q + 4 < r) : (sv5 w g q t g1 g2).cell? ⟨g, r, none⟩ = w.cell? ⟨g, r, none⟩ := by
  unfold sv5
  rw [World.cell?_setCell_other, World.cell?_setCell_other, World.cell?_setCell_other, World.cell?_setCell_other, World.cell?_setCell_other]
  all_goals (intro h'; simp at h'; try omega)
theorem sv5_block {w : World} {g q g1 g2 b r : Nat} {t : TT} (h : b ≠ g) : (sv5 w g q t g1 g2).cell? ⟨b, r, none⟩ = w.cell? ⟨b, r, none⟩ := by
  unfold sv5
  rw [World.cell?_setCell_other, World.cell?_setCell_other, World.cell?_setCell_other, World.cell?_setCell_other, World.cell?_setCell_other]
  all_goals (intro h'; simp at h'; try omega)
theorem sv5_below {w w' : World} {g q g1 g2 B : Nat} {t : TT} (h : Below B w w') (hB : B ≤ g) : Below B w (sv5 w' g q t g1 g2) :=
  ((((h.setCell hB _).setCell hB _).setCell hB _).setCell hB _).setCell hB _
theorem sv5_size {w : World} {g q g1 g2 : Nat} {t : TT} : (sv5 w g q t g1 g2).heap.size = w.heap.size := by simp [sv5]
theorem TabOwn.sv5 {w : World} {g q r g1 g2 : Nat} {t u : TT} (h : TabOwn w g r u) (hr : r + 5 ≤ q) : TabOwn (sv5 w g q t g1 g2) g r u := by
  obtain ⟨k1, k2, h0, h1, h2, h3, h4, hi, hs, n1, n2, hl1, hl2⟩ := h
  refine ⟨k1, k2, (sv5_other (by omega)).trans h0, (sv5_other (by omega)).trans h1, (sv5_other (by omega)).trans h2, (sv5_other (by omega)).trans h3, (sv5_other (by omega)).trans h4, fun k hk => (sv5_block (by omega)).trans (hi k hk), fun k hk => (sv5_block (by omega)).trans (hs k hk), n1, n2, by rw [sv5_size]; exact hl1, by rw [sv5_size]; exact hl2⟩
theorem sv5_at {w : World} {g q m g1 g2 : Nat} {t : TT} (h : Room w g m) (hq : q + 5 ≤ m) (hi : IntRow w g1 0 t.ks) (hs : StrRow w g2 0 t.vs) (n1 : g < g1) (n2 : g < g2) (l1 : g1 < w.heap.size) (l2 : g2 < w.heap.size) : TabOwn (Go.Proofs.Ytghcknbpipaghaa.sv5 w g q t g1 g2) g q t := by
  have r0 := h
  have r1 := r0.set ⟨g, q, none⟩ (.int .i64 t.k)
  have r2 := r1.set ⟨g, q + 1, none⟩ (.int .i64 t.s)
  have r3 := r2.set ⟨g, q + 2, none⟩ (.int .i64 t.r)
  have r4 := r3.set ⟨g, q + 3, none⟩ (.slice (some ⟨g1, 0, none⟩) t.ks.length t.ks.length)
  obtain ⟨⟨u0, k0⟩, _⟩ := r0 q (by omega)
  obtain ⟨⟨u1, k1⟩, _⟩ := r1 (q + 1) (by omega)
  obtain ⟨⟨u2, k2⟩, _⟩ := r2 (q + 2) (by omega)
  obtain ⟨⟨u3, k3⟩, _⟩ := r3 (q + 3) (by omega)
  obtain ⟨⟨u4, k4⟩, _⟩ := r4 (q + 4) (by omega)
  refine ⟨g1, g2, ?_, ?_, ?_, ?_, ?_, fun k hk => (sv5_block (by omega)).trans (hi k hk), fun k hk => (sv5_block (by omega)).trans (hs k hk), n1, n2, by rw [sv5_size]; exact l1, by rw [sv5_size]; exact l2⟩
  · unfold Go.Proofs.Ytghcknbpipaghaa.sv5
    rw [World.cell?_setCell_other, World.cell?_setCell_other, World.cell?_setCell_other, World.cell?_setCell_other]
    · exact World.cell?_setCell_same _ _ _ k0
    all_goals simp
  · unfold Go.Proofs.Ytghcknbpipaghaa.sv5
    rw [World.cell?_setCell_other, World.cell?_setCell_other, World.cell?_setCell_other]
    · exact World.cell?_setCell_same _ _ _ k1
    all_goals simp
  · unfold Go.Proofs.Ytghcknbpipaghaa.sv5
    rw [World.cell?_setCell_other, World.cell?_setCell_other]
    · exact World.cell?_setCell_same _ _ _ k2
    all_goals simp
  · unfold Go.Proofs.Ytghcknbpipaghaa.sv5
    rw [World.cell?_setCell_other]
    · exact World.cell?_setCell_same _ _ _ k3
    all_goals simp
  · exact World.cell?_setCell_same _ _ _ k4
/-- A row of tables that a copy holds. -/
def RowO (w : World) (g : Nat) (ts : List TT) : Prop := ∀ k (h : k < ts.length), TabOwn w g (k * 5) ts[k]
theorem RowO.below {w w' : World} {g : Nat} {ts : List TT} (h : RowO w g ts) (hb : Below w.heap.size w w') (hg : g < w.heap.size) : RowO w' g ts := fun k hk => (h k hk).below hb hg
theorem RowO.row {w : World} {g : Nat} {ts : List TT} (h : RowO w g ts) : TabRow w g 0 ts := fun k hk => by rw [Nat.zero_add]; exact (h k hk).tab
theorem RowO.arg {w : World} {g : Nat} {ts : List TT} (h : RowO w g ts) (hg : g < w.heap.size) : ArgT w (some ⟨g, 0, none⟩) ts := .inr ⟨g, 0, rfl, hg, h.row⟩
theorem RowO.set {w : World} {g : Nat} {ts : List TT} (h : RowO w g ts) (a : Addr) (v : Value) (ha : a.block < g) : RowO (w.setCell a v) g ts := fun k hk => by
  obtain ⟨g1, g2, h0, h1, h2, h3, h4, hi, hs, n1, n2, l1, l2⟩ := h k hk
  have ne : ∀ r, (w.setCell a v).cell? ⟨g, r, none⟩ = w.cell? ⟨g, r, none⟩ := fun r => World.cell?_setCell_other _ _ _ _ (fun e => by rw [e] at ha; simp at ha)
  exact ⟨g1, g2, (ne _).trans h0, (ne _).trans h1, (ne _).trans h2, (ne _).trans h3, (ne _).trans h4, hi.set _ _ (by omega), hs.set _ _ (by omega), n1, n2, by simpa using l1, by simpa using l2⟩
theorem infoT : (Try.prog.info? 53).map (fun i => (i.zero, i.size, i.bytes)) = some (some (.agg #[.int .i64 0, .int .i64 0, .int .i64 0, .slice none 0 0, .slice none 0 0]), 5, 72) := by kernel_rfl
theorem room_own5 {w : World} {base e g n cap : Nat} {xs : List Value} (h : w.ownsRow base e 5 (.slice (some ⟨g, 0, none⟩) n cap) n xs) : Room w g (n * 5) := fun j hj => by
  have hl := h.1
  refine ⟨⟨xs[j]'(by omega), ?_⟩, h.frozenAt j⟩
  rw [h.cellAt j hj, List.getElem?_eq_getElem (by omega)]

set_option maxRecDepth 100000 in
set_option maxHeartbeats 4000000 in
theorem toTS (ts : List TT) (a : Option Addr) (cap : Nat) (w : World) (hA : ArgT w a ts) (hn : ts.length ≤ 1048576) (hsm : ∀ t ∈ ts, t.small) :
    Calls Try.prog 14 #[.slice a ts.length cap] w fun e w' => e = .returned (.slice (some ⟨w.heap.size, 0, none⟩) ts.length ts.length) ∧ RowO w' w.heap.size ts ∧ w.heap.size < w'.heap.size ∧ Below w.heap.size w w' := by
  have HA : Hid (ArgT w a ts) := hA
  have HB : Hid (∀ t ∈ ts, t.small) := hsm
  clear hA hsm
  obtain ⟨i0, hi, hz0, hz1, hz2⟩ := info_parts infoT
  go_enter Try.func14, Try.ntmps14
  go_wp2_with (first | (refine wpList_make_full _ rfl _ _ 30 rfl w.heap.size 53 i0 _ 5 Try.underlying30 hi hz0 hz1 .i64 .i64 _ _ ts.length rfl rfl rfl rfl ?m1 ?m2 (Nat.le_refl _) ?_))
  case m1 => rw [hz2]; omega
  case m2 => unfold maxLen; omega
  intro w1 hown hgrow
  have hroom := room_own5 hown
  have hbel : Below w.heap.size w w1 := (Below.refl _ _).grown hgrow (Nat.le_refl _) (fun k hk => by cases hk)
  have hsz : w.heap.size < w1.heap.size := own_size hown
  clear hown hgrow hi hz0 hz1 hz2
  go_wp2_with fail
  go_loopw [4] (fun i wr => ∃ k : Nat, k ≤ ts.length ∧ i = .int .i64 k ∧ Below w.heap.size w wr ∧ Room wr w.heap.size (ts.length * 5) ∧ w.heap.size < wr.heap.size ∧ Hid (∀ j (h : j < ts.length), j < k → TabOwn wr w.heap.size (j * 5) ts[j])) (fun i _ => ts.length - (intOf i).toNat)
  case atStart => exact ⟨0, Nat.zero_le _, rfl, hbel, hroom, hsz, hidI (fun j _ h => absurd h (by omega))⟩
  case round =>
    clear hbel hroom hsz
    obtain ⟨k, hk, rfl, hbw, hroom, hsz, HD⟩ := hrel
    have HR : Hid (Room wr w.heap.size (ts.length * 5)) := hroom
    by_cases hlt : k < ts.length
    · have hlt' : (k : Int) < (ts.length : Int) := by omega
      obtain ⟨b, p, rfl, hb, ht⟩ := (HA.out.below hbw (Nat.le_refl _)).at k hlt
      have hbg : ts[k].small := HB.out _ (List.getElem_mem _)
      obtain ⟨t, ht0⟩ : ∃ t, t = ts[k] := ⟨_, rfl⟩
      have HX : Hid (t = ts[k]) := ht0
      rw [← ht0] at ht hbg
      clear ht0
      obtain ⟨ta, ta', tc, tc', t0, t1, t2, t3, t4, hI, hS, htc⟩ := ht
      obtain ⟨g0, g1⟩ := hbg
      obtain ⟨⟨u0, q0⟩, z0⟩ := hroom (k * 5) (by omega)
      obtain ⟨⟨u1, q1⟩, z1⟩ := hroom (k * 5 + 1) (by omega)
      obtain ⟨⟨u2, q2⟩, z2⟩ := hroom (k * 5 + 2) (by omega)
      obtain ⟨⟨u3, q3⟩, z3⟩ := hroom (k * 5 + 3) (by omega)
      obtain ⟨⟨u4, q4⟩, z4⟩ := hroom (k * 5 + 4) (by omega)
      clear hroom
      go_wp2_with fail
      refine (f11 t.k t.s t.r t.ks t.vs _ _ _ _ _ hI hS g0 g1).mono ?_
      rintro e w2 ⟨e1, e2, rfl, i2, s2, l1, l2, m1, m2, hne, hb2⟩
      obtain ⟨hc2, hf2⟩ := bcell hb2
      have c2 : Below w.heap.size w w2 := hbw.trans (hb2.mono hbw.size)
      have r2 : Room w2 w.heap.size (ts.length * 5) := Room.below HR.out hb2 hsz
      have HR2 : Hid (Room w2 w.heap.size (ts.length * 5)) := r2
      have HI2 : Hid (IntRow w2 e1 0 t.ks) := i2
      have HS2 : Hid (StrRow w2 e2 0 t.vs) := s2
      clear r2 i2 s2
      have hs2 : w.heap.size < w2.heap.size := by have := hb2.size; omega
      go_wp2_with fail
      refine ⟨⟨k + 1, by omega, by go_num, sv5_below (g := w.heap.size) (q := k * 5) (t := t) (g1 := e1) (g2 := e2) c2 (Nat.le_refl _), sv5_room (q := k * 5) (t := t) (g1 := e1) (g2 := e2) HR2.out, by simpa using hs2, hidI ?_⟩, by simp [intOf]; omega⟩
      intro j h hj
      by_cases hjk : j < k
      · exact TabOwn.sv5 (q := k * 5) (t := t) (g1 := e1) (g2 := e2) ((HD.out j h hjk).below hb2 hsz) (by omega)
      · obtain rfl : j = k := by omega
        rw [← HX.out]
        exact sv5_at HR2.out (by omega) HI2.out HS2.out (by omega) (by omega) m1 m2
    · obtain rfl : k = ts.length := by omega
      go_wp2_with fail
      go_ret
      exact ⟨rfl, fun j h => HD.out j h h, hsz, hbw⟩

end Go.Proofs.Ytghcknbpipaghaa
