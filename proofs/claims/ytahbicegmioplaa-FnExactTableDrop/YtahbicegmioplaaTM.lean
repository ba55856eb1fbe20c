/- TableLook: the leaves. -/
import Derived.Test.YtahbicegmioplaaTL
import Derived.Deep.RegionHeld3
namespace Go.Proofs.Ytahbicegmioplaa
open Go.RowKit
set_option linter.unusedSimpArgs false
set_option linter.unusedVariables false

open Classical in
noncomputable def okB (k s r : Int) (ks : List Int) (vs : List ByteArray) : Bool := decide (OkP k s r ks vs)
theorem okB_true {k s r : Int} {ks : List Int} {vs : List ByteArray} : okB k s r ks vs = true ↔ OkP k s r ks vs := by simp [okB]
theorem Ans.okB {e : Ending} {k s r : Int} {ks : List Int} {vs : List ByteArray} (h : Ans e (OkP k s r ks vs)) : e = .returned (.bool (okB k s r ks vs)) := by
  obtain ⟨q, rfl, hq⟩ := h
  exact ret_bool (by rw [Bool.eq_iff_iff, hq, okB_true])
theorem f28b (k s r : Int) (ks : List Int) (vs : List ByteArray) (a b : Option Addr) (c d : Nat) (w : World) (hA : ArgI w a ks) (hB : ArgS w b vs) :
    Calls Try.prog 52 #[.agg #[.int .i64 k, .int .i64 s, .int .i64 r, .slice a ks.length c, .slice b vs.length d]] w fun e w' => e = .returned (.bool (okB k s r ks vs)) ∧ Below w.heap.size w w' :=
  (f28 k s r ks vs a b c d w hA hB).mono fun _ _ h => ⟨Ans.okB h.1, h.2⟩
theorem f12b (k s r : Int) (ks : List Int) (vs : List ByteArray) (a b : Option Addr) (c d : Nat) (w : World) (hA : ArgI w a ks) (hB : ArgS w b vs) (hc : ks.length ≤ c) (hkm : ks.length ≤ 1048576) (hvm : vs.length ≤ 1048576) :
    Calls Try.prog 14 #[.agg #[.int .i64 k, .int .i64 s, .int .i64 r, .slice a ks.length c, .slice b vs.length d]] w fun e w' => e = .returned (.bool (okB k s r ks vs)) ∧ Below w.heap.size w w' :=
  (f12 k s r ks vs a b c d w hA hB hc hkm hvm).mono fun _ _ h => ⟨Ans.okB h.1, h.2⟩

/-- Where a key stands. -/
def atI (ks : List Int) (key : Int) : Int := match ks.findIdx? (fun x => x == key) with
  | some i => i
  | none => -1
theorem atI_none {ks : List Int} {key : Int} (h : ∀ j (h : j < ks.length), (ks[j] == key) = false) : atI ks key = -1 := by
  unfold atI
  rw [List.findIdx?_eq_none_iff.2 (by intro x hx; obtain ⟨j, hj, rfl⟩ := List.getElem_of_mem hx; exact h j hj)]
theorem atI_some {ks : List Int} {key : Int} {i : Nat} (hi : i < ks.length) (he : (ks[i] == key) = true) (h : ∀ j (h : j < ks.length), j < i → (ks[j] == key) = false) : atI ks key = i := by
  unfold atI
  rw [List.findIdx?_eq_some_iff_getElem.2 ⟨hi, he, fun j hj => by rw [h j (by omega) hj]; simp⟩]
theorem atI_cases (ks : List Int) (key : Int) : (atI ks key = -1 ∧ ∀ j (h : j < ks.length), (ks[j] == key) = false) ∨ ∃ i, ∃ h : i < ks.length, atI ks key = i ∧ (ks[i] == key) = true ∧ ∀ j (h : j < ks.length), j < i → (ks[j] == key) = false := by
  by_cases hall : ∀ j (h : j < ks.length), (ks[j] == key) = false
  · exact .inl ⟨atI_none hall, hall⟩
  · right
    cases hf : ks.findIdx? (fun x => x == key) with
    | none =>
      rw [List.findIdx?_eq_none_iff] at hf
      exact absurd (fun j hj => hf _ (List.getElem_mem hj)) hall
    | some i =>
      obtain ⟨hi, he, hn⟩ := List.findIdx?_eq_some_iff_getElem.1 hf
      exact ⟨i, hi, by unfold atI; rw [hf], he, fun j hj hji => by have := hn j hji; simpa using this⟩
theorem find_zip (key : Int) : ∀ (ks : List Int) (vs : List ByteArray) (i : Nat) (hl : ks.length = vs.length) (hi : i < ks.length) (he : (ks[i] == key) = true) (hn : ∀ j (h : j < ks.length), j < i → (ks[j] == key) = false), (ks.zip vs).find? (fun x => x.1 == key) = some (ks[i], vs[i])
  | [], _, _, _, hi, _, _ => by simp at hi
  | _ :: _, [], _, hl, _, _, _ => by simp at hl
  | x :: ks, y :: vs, 0, _, _, he, _ => by simp at he ⊢; simp [he]
  | x :: ks, y :: vs, i + 1, hl, hi, he, hn => by
    have h0 := hn 0 (by simp) (by omega)
    simp at h0
    rw [List.zip_cons_cons, List.find?_cons_of_neg (by simpa using h0)]
    exact find_zip key ks vs i (by simpa using hl) (by simpa using hi) (by simpa using he) (fun j h hj => by have := hn (j + 1) (by simpa using h) (by omega); simpa using this)
theorem look_there {ks : List Int} {vs : List ByteArray} {key : Int} {i : Nat} (hl : ks.length = vs.length) (hi : i < ks.length) (he : (ks[i] == key) = true) (hn : ∀ j (h : j < ks.length), j < i → (ks[j] == key) = false) : lookP (ks.zip vs) key = (vs[i], true) := by
  unfold lookP
  rw [find_zip key ks vs i hl hi he hn]
theorem look_not {ks : List Int} {vs : List ByteArray} {key : Int} (hn : ∀ j (h : j < ks.length), (ks[j] == key) = false) : lookP (ks.zip vs) key = (⟨#[]⟩, false) := by
  refine lookP_none fun x hx => ?_
  obtain ⟨j, hj, e⟩ := List.getElem_of_mem (List.of_mem_zip hx).1
  rw [← e]; exact hn j hj

set_option maxRecDepth 100000 in
set_option maxHeartbeats 2000000 in
theorem f45 (k s r : Int) (ks : List Int) (vs : List ByteArray) (a b : Option Addr) (c d : Nat) (key : Int) (w : World) (hA : ArgI w a ks) (hn : ks.length ≤ 1048576) :
    Calls Try.prog 57 #[.agg #[.int .i64 k, .int .i64 s, .int .i64 r, .slice a ks.length c, .slice b vs.length d], .int .i64 key] w fun e w' => e = .returned (.int .i64 (atI ks key)) ∧ Below w.heap.size w w' := by
  have hcA : ∀ X, Below w.heap.size w (w.alloc X) := fun X => (Below.refl _ _).alloc (Nat.le_refl _) _
  go_enter Try.func57, Try.ntmps57
  go_wp2_with fail
  go_loop [5] (fun i => ∃ n : Nat, n ≤ ks.length ∧ i = .int .i64 n ∧ ∀ j (h : j < ks.length), j < n → (ks[j] == key) = false) (fun i => ks.length - (intOf i).toNat)
  case atStart => exact ⟨0, Nat.zero_le _, rfl, fun _ _ h => absurd h (by omega)⟩
  case round =>
    obtain ⟨n, hn, rfl, hd⟩ := hrel
    have HD : Hid (∀ j (h : j < ks.length), j < n → (ks[j] == key) = false) := hd
    clear hd
    by_cases hlt : n < ks.length
    · have hlt' : (n : Int) < (ks.length : Int) := by omega
      obtain ⟨b2, p2, rfl, hb2, hval⟩ := hA.at n hlt
      obtain ⟨x, hx⟩ : ∃ x, x = ks[n] := ⟨_, rfl⟩
      rw [← hx] at hval
      have HX : Hid _ := hx
      clear hx
      cases hxe : (x == key)
      · go_wp2_with fail
        go_round
        case rel =>
          refine ⟨n + 1, by omega, by go_num, fun j h hj => ?_⟩
          by_cases e : j = n
          · subst e; rw [← HX.out]; exact hxe
          · exact HD.out j h (by omega)
        case measure => simp [intOf]; omega
      · go_wp2_with fail
        go_ret
        exact ⟨ret_i64 (atI_some hlt (by rw [← HX.out]; exact hxe) HD.out).symm, hcA _⟩
    · obtain rfl : n = ks.length := by omega
      go_wp2_with fail
      go_ret
      exact ⟨ret_i64 (atI_none fun j h => HD.out j h h).symm, hcA _⟩

/-! pairsOf -/
theorem info69 : (Try.prog.info? 82).map (fun i => (i.zero, i.size, i.bytes)) = some (some (.agg #[.int .i64 0, .string ⟨#[]⟩]), 2, 24) := by kernel_rfl
def flatP (ps : List Pr) : List Value := ps.flatMap fun x => [.int .i64 x.1, .string x.2]
theorem flatP_snoc (ps : List Pr) (x : Pr) : flatP (ps ++ [x]) = flatP ps ++ [.int .i64 x.1, .string x.2] := by simp [flatP]
theorem flatP_at : ∀ (ps : List Pr) (k : Nat) (h : k < ps.length), (flatP ps)[k * 2]? = some (.int .i64 ps[k].1) ∧ (flatP ps)[k * 2 + 1]? = some (.string ps[k].2)
  | [], k, h => by simp at h
  | x :: ps, 0, _ => by simp [flatP]
  | x :: ps, k + 1, h => by
    have ih := flatP_at ps k (by simpa using h)
    have e : ∀ j, (flatP (x :: ps))[(k + 1) * 2 + j]? = (flatP ps)[k * 2 + j]? := by
      intro j
      show ([.int .i64 x.1, .string x.2] ++ flatP ps)[(k + 1) * 2 + j]? = _
      rw [List.getElem?_append_right (by simp; omega)]
      congr 1
      simp
      omega
    refine ⟨?_, ?_⟩
    · have := e 0; simp only [Nat.add_zero] at this; rw [this]; exact ih.1
    · rw [e 1]; exact ih.2
theorem own_rowP {w : World} {base : Nat} {v : Value} {ps : List Pr} (h : w.ownsRow base 82 2 v ps.length (flatP ps)) :
    (ps = [] ∧ v = .slice none 0 0) ∨ ∃ g cap, v = .slice (some ⟨g, 0, none⟩) ps.length cap ∧ base ≤ g ∧ g < w.heap.size ∧ PairRow w g 0 ps := by
  have h' := h
  rcases h.2 with ⟨hv, hn⟩ | ⟨g, cap, cur, rfl, hb, hg, _⟩
  · exact .inl ⟨List.length_eq_zero_iff.1 hn, hv⟩
  · refine .inr ⟨g, cap, rfl, hb, (Array.getElem?_eq_some_iff.1 hg).1, fun k hk => ?_⟩
    obtain ⟨e0, e1⟩ := flatP_at ps k hk
    rw [Nat.zero_add]
    exact ⟨(h'.cellAt _ (by omega)).trans e0, by have := (h'.cellAt _ (by omega)).trans e1; simpa using this⟩
theorem own_argP {w : World} {base : Nat} {v : Value} {ps : List Pr} (h : w.ownsRow base 82 2 v ps.length (flatP ps)) : ∃ a cap, v = .slice a ps.length cap ∧ ArgP w.heap.size w a ps := by
  rcases own_rowP h with ⟨rfl, rfl⟩ | ⟨g, cap, rfl, _, hg, hr⟩
  · exact ⟨none, 0, rfl, .inl rfl⟩
  · exact ⟨_, cap, rfl, .inr ⟨g, 0, rfl, hg, hr⟩⟩
theorem own_below {w w' : World} {base e size : Nat} {v : Value} {n : Nat} {cs : List Value} (h : w.ownsRow base e size v n cs) (hb : Below w.heap.size w w') : w'.ownsRow base e size v n cs :=
  h.kept (row := none) ⟨hb.os, hb.tape, hb.output, hb.size, fun k hk _ => hb.block k hk⟩ (by cases v.ownBlock <;> simp)
theorem own_base {w : World} {base e size : Nat} {v : Value} {n : Nat} {cs : List Value} (h : w.ownsRow base e size v n cs) : ∀ k, v.ownBlock = some k → base ≤ k := by
  intro k hk
  rcases h.2 with ⟨rfl, _⟩ | ⟨g, cap, cur, rfl, hb, _⟩
  · simp [Value.ownBlock] at hk
  · simp [Value.ownBlock] at hk; omega
theorem own_mono {w : World} {base base' e size : Nat} {v : Value} {n : Nat} {cs : List Value} (h : w.ownsRow base e size v n cs) (hb : base' ≤ base) : w.ownsRow base' e size v n cs := by
  refine ⟨h.1, h.2.imp id ?_⟩
  rintro ⟨g, cap, cur, h1, h2, h3⟩
  exact ⟨g, cap, cur, h1, by omega, h3⟩
theorem newsP_at (w : World) (x : Pr) : ∀ j u, [Value.int .i64 x.1, .string x.2][j]? = some u → (w.alloc (.cells #[.int .i64 x.1, .string x.2] 82)).cell? ((⟨w.heap.size, 0, none⟩ : Addr).add j) = some u := by
  intro j u hj
  have hl : j < 2 := (List.getElem?_eq_some_iff.1 hj).1
  rw [Addr.add_lit, Nat.zero_add]
  rcases (by omega : j = 0 ∨ j = 1) with rfl | rfl <;> simp at hj <;> subst hj <;> simp [go_sem]
theorem newsP_one (x : Pr) : ∀ u ∈ [Value.int .i64 x.1, .string x.2], u.oneCell' = true := by
  intro u hu
  simp at hu
  rcases hu with rfl | rfl <;> rfl
theorem zip_take {ks : List Int} {vs : List ByteArray} {n : Nat} (hk : n < ks.length) (hv : n < vs.length) : (ks.zip vs).take (n + 1) = (ks.zip vs).take n ++ [(ks[n], vs[n])] := by
  rw [List.take_succ_eq_append_getElem (by simp; omega)]; simp

set_option maxRecDepth 100000 in
set_option maxHeartbeats 2000000 in
theorem f46 (k s r : Int) (ks : List Int) (vs : List ByteArray) (a b : Option Addr) (c d : Nat) (w : World) (hA : ArgI w a ks) (hB : ArgS w b vs) (hl : ks.length = vs.length) (hn : ks.length ≤ 8) :
    Calls Try.prog 42 #[.agg #[.int .i64 k, .int .i64 s, .int .i64 r, .slice a ks.length c, .slice b vs.length d]] w fun e w' => ∃ v, e = .returned v ∧ w'.ownsRow w.heap.size 82 2 v (ks.zip vs).length (flatP (ks.zip vs)) ∧ Below w.heap.size w w' := by
  obtain ⟨i0, hi, hz0, hz1, hz2⟩ := info_parts info69
  have hcA : ∀ X, Below w.heap.size w (w.alloc X) := fun X => (Below.refl _ _).alloc (Nat.le_refl _) _
  have hl1 : (ks.length : Int) ≤ (vs.length : Int) := by omega
  have hn' : (ks.length : Int) ≤ 8 := by omega
  have HL : Hid _ := hl
  clear hl
  go_enter Try.func42, Try.ntmps42
  go_wp2_with fail
  go_loopw [3, 9] (fun v i wr => ∃ n : Nat, n ≤ ks.length ∧ i = .int .i64 n ∧ wr.ownsRow (w.heap.size + 1) 82 2 v ((ks.zip vs).take n).length (flatP ((ks.zip vs).take n)) ∧ Below (w.heap.size + 1) (w.alloc (.cells #[.int .i64 k, .int .i64 s, .int .i64 r, .slice a ks.length c, .slice b vs.length d] 28)) wr) (fun _ i _ => ks.length - (intOf i).toNat)
  case atStart => exact ⟨0, Nat.zero_le _, rfl, World.ownsRow_nil _ _ _ _, Below.refl _ _⟩
  case round =>
    obtain ⟨n, hn, rfl, hown, hbw⟩ := hrel
    have HO : Hid _ := hown
    clear hown
    have hcw : ∀ b' o', b' < w.heap.size + 1 → wr.cell? ⟨b', o', none⟩ = (w.alloc (.cells #[.int .i64 k, .int .i64 s, .int .i64 r, .slice a ks.length c, .slice b vs.length d] 28)).cell? ⟨b', o', none⟩ := fun b' o' h => hbw.cell (p := ⟨b', o', none⟩) h
    have cw : Below w.heap.size w wr := (hcA _).trans (hbw.mono (by omega))
    by_cases hlt : n < ks.length
    · have hltv : n < vs.length := by have := HL.out; omega
      have hlt' : (n : Int) < (ks.length : Int) := by omega
      have hltv' : (n : Int) < (vs.length : Int) := by omega
      obtain ⟨b1, p1, rfl, hb1, hkey⟩ := (hA.below cw (Nat.le_refl _)).at n hlt
      obtain ⟨b2, p2, rfl, hb2, hval⟩ := (hB.below cw (Nat.le_refl _)).at n hltv
      have hst := zip_take hlt hltv
      obtain ⟨y, hy⟩ : ∃ y, y = ks[n] := ⟨_, rfl⟩
      obtain ⟨x, hx⟩ : ∃ x, x = vs[n] := ⟨_, rfl⟩
      rw [← hy] at hkey hst
      rw [← hx] at hval hst
      have HS : Hid _ := hst
      clear hy hx hst
      have hpl : ((ks.zip vs).take n).length ≤ 8 := by simp; omega
      obtain ⟨ps, hps⟩ : ∃ ps, ps = (ks.zip vs).take n := ⟨_, rfl⟩
      have hown := HO.out
      rw [← hps] at hown hpl
      have HP : Hid _ := hps
      clear hps
      have hsz := hbw.size
      simp only [World.size_alloc] at hsz
      go_wp2_with (first | (at_builtin; go_must (refine wpList_append_own _ rfl _ _ 55 rfl (w.heap.size + 1) 82 i0 (.agg #[.int .i64 0, .string ⟨#[]⟩]) 2 24 Try.underlying55 hi hz0 hz1 hz2 rfl (by decide) _ _ _ rfl (World.ownsRow.alloc hown _) ⟨wr.heap.size, 0, none⟩ 1 1 [.int .i64 y, .string x] rfl rfl ?c1 ?c2 ?c3 ?c4 ?c5 ?_)))
      case c1 => exact newsP_at wr (y, x)
      case c2 => exact newsP_one (y, x)
      case c3 => unfold maxLen; omega
      case c4 => omega
      case c5 => simp; omega
      intro v' w3 hown3 hgrow _
      have hown4 : w3.ownsRow (w.heap.size + 1) 82 2 v' (ps ++ [(y, x)]).length (flatP (ps ++ [(y, x)])) := by rw [flatP_snoc]; simpa using hown3
      have hbw3 : Below (w.heap.size + 1) (w.alloc (.cells #[.int .i64 k, .int .i64 s, .int .i64 r, .slice (some ⟨b1, p1, none⟩) ks.length c, .slice (some ⟨b2, p2, none⟩) vs.length d] 28)) w3 := (hbw.alloc (by omega) _).grown hgrow (by simp; omega) (own_base hown)
      have HW : Hid _ := hown4
      clear hown hown3 hown4 hgrow
      go_wp2_with fail
      go_roundw
      case rel => exact ⟨n + 1, by omega, by go_num, by rw [HS.out, ← HP.out]; exact HW.out, hbw3⟩
      case measure => simp [intOf]; omega
    · obtain rfl : n = ks.length := by omega
      have ht : (ks.zip vs).take ks.length = ks.zip vs := List.take_of_length_le (by simp; omega)
      have HT : Hid _ := ht
      clear ht
      go_wp2_with fail
      go_ret
      refine ⟨_, rfl, ?_, cw⟩
      have := HO.out
      rw [HT.out] at this
      exact own_mono this (by omega)

end Go.Proofs.Ytahbicegmioplaa
