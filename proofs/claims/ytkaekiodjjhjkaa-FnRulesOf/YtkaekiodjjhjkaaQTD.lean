/- What it is for a table to be ok; the specification's walk. -/
import Derived.Test.YtkaekiodjjhjkaaQTB
namespace Go.Proofs.Ytkaekiodjjhjkaa.G
open Go.RowKit
set_option linter.unusedSimpArgs false

/-- The first 'n' places are as they must be. -/
structure Good (k s : Int) (ks : List Int) (vs : List ByteArray) (n : Nat) : Prop where
  size : ∀ i (h : i < vs.length), i < n → (vs[i].size : Int) = s
  num : ∀ i (h : i < ks.length), i < n → inB ks[i] 0 4294967295 = true
  row : k = 1 → ∀ i (h : i < ks.length), i < n → ks[i] = i
  once : ∀ i (h : i < ks.length), i < n → ∀ j (hj : j < i), ks[j] ≠ ks[i]
def shape2B (k s r : Int) (n m : Nat) : Bool := shapeB k s r && ((n : Int) == (m : Int)) && decide ((n : Int) ≤ r)
structure OkP (k s r : Int) (ks : List Int) (vs : List ByteArray) : Prop where
  shape : shape2B k s r ks.length vs.length = true
  full : k = 1 → (ks.length : Int) = r
  good : Good k s ks vs ks.length

theorem shape2_len {k s r : Int} {n m : Nat} (h : shape2B k s r n m = true) : n = m ∧ (n : Int) ≤ r ∧ r ≤ 8 ∧ 1 ≤ k ∧ k ≤ 2 := by
  simp [shape2B, shapeB, inB] at h; omega

set_option maxRecDepth 100000 in
set_option maxHeartbeats 2000000 in
theorem f55 (k s r : Int) (a b : Option Addr) (n m c d : Nat) (w : World) :
    Calls Try.prog 101 #[.agg #[.int .i64 k, .int .i64 s, .int .i64 r, .slice a n c, .slice b m d]] w fun e w' => e = .returned (.bool (shape2B k s r n m)) ∧ Below w.heap.size w w' := by
  go_enter Try.func101, Try.ntmps101
  go_wp2_with (first | (go_at_call 56; refine (f36 _ _ _ _).mono ?_; rintro e w' ⟨rfl, rfl⟩))
  all_goals (go_ret; refine ⟨ret_bool ?_, (Below.refl _ _).alloc (Nat.le_refl _) _⟩; simp_all [shape2B, shapeB])

theorem Good.zero (k s : Int) (ks : List Int) (vs : List ByteArray) : Good k s ks vs 0 := ⟨fun _ _ h => absurd h (by omega), fun _ _ h => absurd h (by omega), fun _ _ _ h => absurd h (by omega), fun _ _ h => absurd h (by omega)⟩
theorem Good.next {k s : Int} {ks : List Int} {vs : List ByteArray} {n : Nat} (hg : Good k s ks vs n) (hk : n < ks.length) (hv : n < vs.length) (h1 : (vs[n].size : Int) = s) (h2 : inB ks[n] 0 4294967295 = true) (h3 : k = 1 → ks[n] = n) (h4 : ∀ j (hj : j < n), ks[j] ≠ ks[n]) : Good k s ks vs (n + 1) := by
  refine ⟨fun i h hi => ?_, fun i h hi => ?_, fun hk1 i h hi => ?_, fun i h hi => ?_⟩
  · by_cases e : i = n
    · subst e; exact h1
    · exact hg.size i h (by omega)
  · by_cases e : i = n
    · subst e; exact h2
    · exact hg.num i h (by omega)
  · by_cases e : i = n
    · subst e; exact h3 hk1
    · exact hg.row hk1 i h (by omega)
  · by_cases e : i = n
    · subst e; exact h4
    · exact hg.once i h (by omega)

set_option maxRecDepth 100000 in
set_option maxHeartbeats 4000000 in
theorem f28 (k s r : Int) (ks : List Int) (vs : List ByteArray) (a b : Option Addr) (c d : Nat) (w : World) (hA : ArgI w a ks) (hB : ArgS w b vs) :
    Calls Try.prog 85 #[.agg #[.int .i64 k, .int .i64 s, .int .i64 r, .slice a ks.length c, .slice b vs.length d]] w fun e w' => (∃ q : Bool, e = .returned (.bool q) ∧ (q = true ↔ OkP k s r ks vs)) ∧ Below w.heap.size w w' := by
  cases hsh : shape2B k s r ks.length vs.length
  · go_enter Try.func85, Try.ntmps85
    go_wp2_with fail
    refine (f55 _ _ _ _ _ _ _ _ _ _).mono ?_
    rintro e w1 ⟨rfl, hw1⟩
    go_wp2_with fail
    go_ret
    exact ⟨⟨false, rfl, by simp, fun h => absurd h.shape (by simp [hsh])⟩, ((Below.refl _ _).alloc (Nat.le_refl _) _).trans (hw1.mono (by simp))⟩
  obtain ⟨hlen, hr1, hr8, hk1, hk2⟩ := shape2_len hsh
  have HL : Hid _ := hlen
  have hlen' : (ks.length : Int) ≤ 8 := by omega
  have hl1 : (vs.length : Int) ≤ (ks.length : Int) := by omega
  have hl2 : (ks.length : Int) ≤ (vs.length : Int) := by omega
  have HSH : Hid _ := hsh
  by_cases hbad : k = 1 ∧ (ks.length : Int) ≠ r
  · obtain ⟨rfl, hne⟩ := hbad
    have hne' : ((ks.length : Int) != r) = true := by simpa using hne
    have HN : Hid _ := hne
    clear hne hlen
    go_enter Try.func85, Try.ntmps85
    go_wp2_with fail
    refine (f55 _ _ _ _ _ _ _ _ _ _).mono ?_
    rintro e w1 ⟨rfl, hw1⟩
    obtain ⟨hc1, hf1⟩ := bcell hw1
    go_wp2_with fail
    go_ret
    exact ⟨⟨false, rfl, by simp, fun h => absurd (h.full rfl) HN.out⟩, ((Below.refl _ _).alloc (Nat.le_refl _) _).trans (hw1.mono (by simp))⟩
  have hfull : k = 1 → (ks.length : Int) = r := fun h => Classical.byContradiction fun hne => hbad ⟨h, hne⟩
  have HFU : Hid _ := hfull
  have hrow : ((k == 1) = true ∧ ((ks.length : Int) != r) = false) ∨ (k == 1) = false := by
    by_cases hk : k = 1
    · exact .inl ⟨by simp [hk], by simp [hfull hk]⟩
    · exact .inr (by simpa using hk)
  clear hbad hfull hlen
  go_enter Try.func85, Try.ntmps85
  go_wp2_with fail
  refine (f55 _ _ _ _ _ _ _ _ _ _).mono ?_
  rintro e w1 ⟨rfl, hw1⟩
  obtain ⟨hc1, hf1⟩ := bcell hw1
  have hz1 := hw1.size
  simp only [World.size_alloc] at hz1
  have hz1' : w.heap.size < w1.heap.size := by omega
  have c1 : Below w.heap.size w w1 := ((Below.refl _ _).alloc (Nat.le_refl _) _).trans (hw1.mono (by simp))
  rcases hrow with ⟨hkk, hne⟩ | hkk
  · go_wp2_with fail
    go_loopw [3] (fun i wr => ∃ n : Nat, n ≤ ks.length ∧ i = .int .i64 n ∧ Below (w.heap.size + 1) w1 wr ∧ Good k s ks vs n) (fun i _ => ks.length - (intOf i).toNat)
    case atStart => exact ⟨0, Nat.zero_le _, rfl, Below.refl _ _, Good.zero _ _ _ _⟩
    case round =>
      obtain ⟨n, hn, rfl, hbw, hg⟩ := hrel
      have HGD : Hid (Good k s ks vs n) := hg
      clear hg
      obtain ⟨wo, rfl⟩ : ∃ wo : World, wo = wr := ⟨_, rfl⟩
      have hcw : ∀ b o, b < w.heap.size + 1 → wo.cell? ⟨b, o, none⟩ = w1.cell? ⟨b, o, none⟩ := fun b o h => hbw.cell (p := ⟨b, o, none⟩) h
      have cw : Below w.heap.size w wo := c1.trans (hbw.mono (by omega))
      by_cases hlt : n < ks.length
      · have hltv : n < vs.length := by have := HL.out; omega
        have hlt1 : (n : Int) < (ks.length : Int) := by omega
        have hlt2 : (n : Int) < (vs.length : Int) := by omega
        obtain ⟨b1, p1, rfl, hb1, hkey⟩ := (hA.below cw (Nat.le_refl _)).at n hlt
        obtain ⟨b2, p2, rfl, hb2, hval⟩ := (hB.below cw (Nat.le_refl _)).at n hltv
        obtain ⟨y, hy⟩ : ∃ y, y = ks[n] := ⟨_, rfl⟩
        obtain ⟨x, hx⟩ : ∃ x, x = vs[n] := ⟨_, rfl⟩
        rw [← hy] at hkey
        rw [← hx] at hval
        have HY : Hid _ := hy
        have HX : Hid _ := hx
        clear hy hx
        cases hsz : ((x.size : Int) != s)
        case true =>
          go_wp2_with fail
          go_quiet ((first | (go_at_call 46; exact Calls.quiet_of_same (f48 _)) | (go_at_call 56; exact Calls.quiet_of_same (f36 _ _ _ _))))
          go_wp2_with fail
          go_ret
          exact ⟨⟨false, rfl, by simp, fun h => by have := h.good.size n hltv hlt; rw [← HX.out] at this; simp [this] at hsz⟩, below_drewN cw _⟩
        case false =>
          cases hnm : inB y 0 4294967295
          case false =>
            go_wp2_with fail
            go_quiet ((first | (go_at_call 46; exact Calls.quiet_of_same (f48 _)) | (go_at_call 56; exact Calls.quiet_of_same (f36 _ _ _ _))))
            go_wp2_with fail
            go_ret
            exact ⟨⟨false, rfl, by simp, fun h => by have := h.good.num n hlt hlt; rw [← HY.out, hnm] at this; cases this⟩, below_drewN cw _⟩
          case true =>
            cases hyn : (y != (n : Int))
            case true =>
              go_wp2_with fail
              go_quiet ((first | (go_at_call 46; exact Calls.quiet_of_same (f48 _)) | (go_at_call 56; exact Calls.quiet_of_same (f36 _ _ _ _))))
              go_wp2_with fail
              go_ret
              exact ⟨⟨false, rfl, by simp, fun h => by have := h.good.row (by simpa using hkk) n hlt hlt; rw [← HY.out] at this; simp [this] at hyn⟩, below_drewN cw _⟩
            case false =>
              go_wp2_with fail
              go_quiet ((first | (go_at_call 46; exact Calls.quiet_of_same (f48 _)) | (go_at_call 56; exact Calls.quiet_of_same (f36 _ _ _ _))))
              go_wp2_with fail
              go_loopw [4] (fun i wr => ∃ m : Nat, m ≤ n ∧ i = .int .i64 m ∧ Below (w.heap.size + 1) w1 wr ∧ ∀ j (h : j < ks.length), j < m → ks[j] ≠ ks[n]) (fun i _ => n - (intOf i).toNat)
              case atStart => exact ⟨0, Nat.zero_le _, rfl, below_drewN hbw _, fun _ _ h => absurd h (by omega)⟩
              case round =>
                obtain ⟨m, hm, rfl, hbm, hd⟩ := hrel
                have HDI : Hid (∀ j (h : j < ks.length), j < m → ks[j] ≠ ks[n]) := hd
                clear hd
                have hcm : ∀ b o, b < w.heap.size + 1 → wr.cell? ⟨b, o, none⟩ = w1.cell? ⟨b, o, none⟩ := fun b o h => hbm.cell (p := ⟨b, o, none⟩) h
                have cm : Below w.heap.size w wr := c1.trans (hbm.mono (by omega))
                by_cases hmn : m < n
                · have hmn1 : (m : Int) < (n : Int) := by omega
                  have hmk : m < ks.length := by omega
                  have hmk1 : (m : Int) < (ks.length : Int) := by omega
                  obtain ⟨b3, p3, e3, hb3, hkm⟩ := (hA.below cm (Nat.le_refl _)).at m hmk
                  obtain ⟨b4, p4, e4, hb4, hkn⟩ := (hA.below cm (Nat.le_refl _)).at n hlt
                  simp only [Option.some.injEq, Addr.mk.injEq, and_true] at e3 e4
                  obtain ⟨rfl, rfl⟩ := e3
                  obtain ⟨rfl, rfl⟩ := e4
                  obtain ⟨z, hz⟩ : ∃ z, z = ks[m] := ⟨_, rfl⟩
                  rw [← hz] at hkm
                  rw [← HY.out] at hkn
                  have HZ : Hid _ := hz
                  clear hz
                  cases hzy : (z == y)
                  case true =>
                    go_wp2_with fail
                    go_quiet (fail)
                    go_wp2_with fail
                    go_ret
                    exact ⟨⟨false, rfl, by simp, fun h => by have := h.good.once n hlt hlt m hmn; rw [← HY.out, ← HZ.out] at this; exact absurd (by simpa using hzy) this⟩, below_drewN cm _⟩
                  case false =>
                    go_wp2_with fail
                    go_quiet (fail)
                    go_wp2_with fail
                    go_roundw
                    case rel =>
                      refine ⟨m + 1, by omega, by go_num, below_drewN hbm _, fun j h hj => ?_⟩
                      by_cases e : j = m
                      · subst e; rw [← HY.out, ← HZ.out]; simpa using hzy
                      · exact HDI.out j h (by omega)
                    case measure => simp [intOf]; omega
                · obtain rfl : m = n := by omega
                  go_wp2_with fail
                  go_roundw
                  case rel => exact ⟨m + 1, by omega, by go_num, hbm, HGD.out.next hlt hltv (by have := hsz; simp at this; rw [← HX.out]; exact this) (by rw [← HY.out]; exact hnm) (fun _ => by have := hyn; simp at this; rw [← HY.out]; exact this) (fun j hj => HDI.out j (by omega) hj)⟩
                  case measure => simp [intOf]; omega
      · obtain rfl : n = ks.length := by omega
        go_wp2_with fail
        go_ret
        exact ⟨⟨true, rfl, fun _ => ⟨HSH.out, HFU.out, HGD.out⟩, fun _ => rfl⟩, cw⟩

  · go_wp2_with fail
    go_loopw [3] (fun i wr => ∃ n : Nat, n ≤ ks.length ∧ i = .int .i64 n ∧ Below (w.heap.size + 1) w1 wr ∧ Good k s ks vs n) (fun i _ => ks.length - (intOf i).toNat)
    case atStart => exact ⟨0, Nat.zero_le _, rfl, Below.refl _ _, Good.zero _ _ _ _⟩
    case round =>
      obtain ⟨n, hn, rfl, hbw, hg⟩ := hrel
      have HGD : Hid (Good k s ks vs n) := hg
      clear hg
      obtain ⟨wo, rfl⟩ : ∃ wo : World, wo = wr := ⟨_, rfl⟩
      have hcw : ∀ b o, b < w.heap.size + 1 → wo.cell? ⟨b, o, none⟩ = w1.cell? ⟨b, o, none⟩ := fun b o h => hbw.cell (p := ⟨b, o, none⟩) h
      have cw : Below w.heap.size w wo := c1.trans (hbw.mono (by omega))
      by_cases hlt : n < ks.length
      · have hltv : n < vs.length := by have := HL.out; omega
        have hlt1 : (n : Int) < (ks.length : Int) := by omega
        have hlt2 : (n : Int) < (vs.length : Int) := by omega
        obtain ⟨b1, p1, rfl, hb1, hkey⟩ := (hA.below cw (Nat.le_refl _)).at n hlt
        obtain ⟨b2, p2, rfl, hb2, hval⟩ := (hB.below cw (Nat.le_refl _)).at n hltv
        obtain ⟨y, hy⟩ : ∃ y, y = ks[n] := ⟨_, rfl⟩
        obtain ⟨x, hx⟩ : ∃ x, x = vs[n] := ⟨_, rfl⟩
        rw [← hy] at hkey
        rw [← hx] at hval
        have HY : Hid _ := hy
        have HX : Hid _ := hx
        clear hy hx
        cases hsz : ((x.size : Int) != s)
        case true =>
          go_wp2_with fail
          go_quiet ((first | (go_at_call 46; exact Calls.quiet_of_same (f48 _)) | (go_at_call 56; exact Calls.quiet_of_same (f36 _ _ _ _))))
          go_wp2_with fail
          go_ret
          exact ⟨⟨false, rfl, by simp, fun h => by have := h.good.size n hltv hlt; rw [← HX.out] at this; simp [this] at hsz⟩, below_drewN cw _⟩
        case false =>
          cases hnm : inB y 0 4294967295
          case false =>
            go_wp2_with fail
            go_quiet ((first | (go_at_call 46; exact Calls.quiet_of_same (f48 _)) | (go_at_call 56; exact Calls.quiet_of_same (f36 _ _ _ _))))
            go_wp2_with fail
            go_ret
            exact ⟨⟨false, rfl, by simp, fun h => by have := h.good.num n hlt hlt; rw [← HY.out, hnm] at this; cases this⟩, below_drewN cw _⟩
          case true =>
            go_wp2_with fail
            go_quiet ((first | (go_at_call 46; exact Calls.quiet_of_same (f48 _)) | (go_at_call 56; exact Calls.quiet_of_same (f36 _ _ _ _))))
            go_wp2_with fail
            go_loopw [4] (fun i wr => ∃ m : Nat, m ≤ n ∧ i = .int .i64 m ∧ Below (w.heap.size + 1) w1 wr ∧ ∀ j (h : j < ks.length), j < m → ks[j] ≠ ks[n]) (fun i _ => n - (intOf i).toNat)
            case atStart => exact ⟨0, Nat.zero_le _, rfl, below_drewN hbw _, fun _ _ h => absurd h (by omega)⟩
            case round =>
              obtain ⟨m, hm, rfl, hbm, hd⟩ := hrel
              have HDI : Hid (∀ j (h : j < ks.length), j < m → ks[j] ≠ ks[n]) := hd
              clear hd
              have hcm : ∀ b o, b < w.heap.size + 1 → wr.cell? ⟨b, o, none⟩ = w1.cell? ⟨b, o, none⟩ := fun b o h => hbm.cell (p := ⟨b, o, none⟩) h
              have cm : Below w.heap.size w wr := c1.trans (hbm.mono (by omega))
              by_cases hmn : m < n
              · have hmn1 : (m : Int) < (n : Int) := by omega
                have hmk : m < ks.length := by omega
                have hmk1 : (m : Int) < (ks.length : Int) := by omega
                obtain ⟨b3, p3, e3, hb3, hkm⟩ := (hA.below cm (Nat.le_refl _)).at m hmk
                obtain ⟨b4, p4, e4, hb4, hkn⟩ := (hA.below cm (Nat.le_refl _)).at n hlt
                simp only [Option.some.injEq, Addr.mk.injEq, and_true] at e3 e4
                obtain ⟨rfl, rfl⟩ := e3
                obtain ⟨rfl, rfl⟩ := e4
                obtain ⟨z, hz⟩ : ∃ z, z = ks[m] := ⟨_, rfl⟩
                rw [← hz] at hkm
                rw [← HY.out] at hkn
                have HZ : Hid _ := hz
                clear hz
                cases hzy : (z == y)
                case true =>
                  go_wp2_with fail
                  go_quiet (fail)
                  go_wp2_with fail
                  go_ret
                  exact ⟨⟨false, rfl, by simp, fun h => by have := h.good.once n hlt hlt m hmn; rw [← HY.out, ← HZ.out] at this; exact absurd (by simpa using hzy) this⟩, below_drewN cm _⟩
                case false =>
                  go_wp2_with fail
                  go_quiet (fail)
                  go_wp2_with fail
                  go_roundw
                  case rel =>
                    refine ⟨m + 1, by omega, by go_num, below_drewN hbm _, fun j h hj => ?_⟩
                    by_cases e : j = m
                    · subst e; rw [← HY.out, ← HZ.out]; simpa using hzy
                    · exact HDI.out j h (by omega)
                  case measure => simp [intOf]; omega
              · obtain rfl : m = n := by omega
                go_wp2_with fail
                go_roundw
                case rel => exact ⟨m + 1, by omega, by go_num, hbm, HGD.out.next hlt hltv (by have := hsz; simp at this; rw [← HX.out]; exact this) (by rw [← HY.out]; exact hnm) (fun h => by simp [h] at hkk) (fun j hj => HDI.out j (by omega) hj)⟩
                case measure => simp [intOf]; omega
      · obtain rfl : n = ks.length := by omega
        go_wp2_with fail
        go_ret
        exact ⟨⟨true, rfl, fun _ => ⟨HSH.out, HFU.out, HGD.out⟩, fun _ => rfl⟩, cw⟩


end Go.Proofs.Ytkaekiodjjhjkaa.G
