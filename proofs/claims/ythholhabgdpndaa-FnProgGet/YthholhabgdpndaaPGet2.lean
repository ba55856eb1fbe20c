/- ProgGet: the walks. -/
import Derived.Test.YthholhabgdpndaaPGet
namespace Go.Proofs.Ythholhabgdpndaa
open Go.RowKit
set_option linter.unusedSimpArgs false

/-- What a call of ProgGet leaves: nothing and false; or a new list, and true. -/
def PRes (w w' : World) (r : Option (List I6)) (v : Value) : Prop := match r with
  | none => v = .tuple #[.slice none 0 0, .bool false]
  | some xs => ∃ g cap, v = .tuple #[.slice (some ⟨g, 0, none⟩) xs.length cap, .bool true] ∧ w.heap.size ≤ g ∧ g < w'.heap.size ∧ InsRow w' g 0 xs ∧ Room w' g (xs.length * 6)

theorem own_below {w w' : World} {base e size : Nat} {v : Value} {n : Nat} {cs : List Value} (h : w.ownsRow base e size v n cs) (hb : Below w.heap.size w w') : w'.ownsRow base e size v n cs :=
  h.kept (row := none) ⟨hb.os, hb.tape, hb.output, hb.size, fun k hk _ => hb.block k hk⟩ (by cases v.ownBlock <;> simp)
theorem own_base {w : World} {base e size : Nat} {v : Value} {n : Nat} {cs : List Value} (h : w.ownsRow base e size v n cs) : ∀ k, v.ownBlock = some k → base ≤ k := by
  intro k hk
  rcases h.2 with ⟨rfl, _⟩ | ⟨g, cap, cur, rfl, hb, _⟩
  · simp [Value.ownBlock] at hk
  · simp [Value.ownBlock] at hk; omega
theorem news_at (w : World) (O : Obj) (x : I6) : ∀ j u, [Value.int .i64 x.o, .int .i64 x.d, .int .i64 x.s, .int .i64 x.f, .int .i64 x.i, .int .i64 x.z][j]? = some u →
    ((w.alloc O).alloc (.cells #[.int .i64 x.o, .int .i64 x.d, .int .i64 x.s, .int .i64 x.f, .int .i64 x.i, .int .i64 x.z] 24)).cell? ((⟨w.heap.size + 1, 0, none⟩ : Addr).add j) = some u := by
  intro j u hj
  have hl : j < 6 := (List.getElem?_eq_some_iff.1 hj).1
  rw [Addr.add_lit, Nat.zero_add]
  rcases (by omega : j = 0 ∨ j = 1 ∨ j = 2 ∨ j = 3 ∨ j = 4 ∨ j = 5) with rfl | rfl | rfl | rfl | rfl | rfl <;> simp at hj <;> subst hj <;> simp [go_sem]
theorem news_one (x : I6) : ∀ u ∈ [Value.int .i64 x.o, .int .i64 x.d, .int .i64 x.s, .int .i64 x.f, .int .i64 x.i, .int .i64 x.z], u.oneCell' = true := by
  intro u hu
  simp at hu
  rcases hu with rfl | rfl | rfl | rfl | rfl | rfl <;> rfl
theorem form_nil : formN [] = 4 := rfl
theorem pres_end {w w1 w2 : World} {a : Option Addr} {cap : Nat} {xs : List I6} {r : Option (List I6)} (hown : w1.ownsRow w.heap.size 24 6 (.slice a xs.length cap) xs.length (flat xs)) (hb : Below w1.heap.size w1 w2) (hf : formN xs = 0) (hr : r = some xs) :
    PRes w w2 r (.tuple #[.slice a xs.length cap, .bool true]) := by
  subst hr
  rcases own_row hown with ⟨rfl, _⟩ | ⟨g, cap', hv, h1, h2, h3, h4⟩
  · rw [form_nil] at hf; cases hf
  · simp only [Value.slice.injEq, true_and] at hv
    obtain ⟨rfl, rfl⟩ := hv
    exact ⟨g, cap, rfl, h1, by have := hb.size; omega, h3.below hb h2, Room.below h4 hb h2⟩

set_option maxRecDepth 100000 in
set_option maxHeartbeats 2000000 in
theorem f25 (s : ByteArray) (w : World) (hs : s.size ≤ 1048576) :
    Calls Try.prog 20 #[.string s] w fun e w' => ∃ v, e = .returned v ∧ PRes w w' (progG s) v ∧ Below w.heap.size w w' := by
  obtain ⟨i0, hi, hz0, hz1, hz2⟩ := info_parts info25
  by_cases h8 : s.size % 8 = 0
  · have h8'' : (((s.size : Int) % 8) != 0) = false := by simp; omega
    go_enter Try.func20, Try.ntmps20
    go_wp2_with fail
    go_loopw [4, 5] (fun v i wr => ∃ (j k : Nat) (xs : List I6), j = 8 * k ∧ j ≤ s.size ∧ i = .int .i64 j ∧ gots s k = some xs ∧ wr.ownsRow w.heap.size 24 6 v xs.length (flat xs) ∧ Below w.heap.size w wr) (fun _ i _ => s.size - (intOf i).toNat)
    case atStart => exact ⟨0, 0, [], rfl, Nat.zero_le _, rfl, rfl, World.ownsRow_nil _ _ _ _, Below.refl _ _⟩
    case round =>
      obtain ⟨j, k, xs, hj, hjs, rfl, hg, hown, hbw⟩ := hrel
      have hxl := gots_length hg
      have HJ : Hid _ := hj
      have HG : Hid _ := hg
      have HL : Hid _ := hxl
      have hks : xs.length ≤ 131072 := by omega
      by_cases hlt : j < s.size
      · have hlt' : (j : Int) < (s.size : Int) := by omega
        have hj8 : j + 8 ≤ s.size := by omega
        have hj8' : (j : Int) + 8 ≤ (s.size : Int) := by omega
        have hch : chunk s k = s.extract j (j + 8) := by rw [hj]; rfl
        have HC : Hid _ := hch
        have hkd : k < s.size / 8 := by omega
        have HK : Hid _ := hkd
        clear hj hg hxl hch hkd
        rcases get_cases (s.extract j (j + 8)) with ⟨x, hx, c14, c15⟩ | ⟨hx, c14, c15⟩
        · have HX : Hid _ := hx
          have HGT : Hid _ := c15
          clear hx c14 c15
          go_wp2_with fail
          refine (HGT.out _).mono ?_
          rintro e w2 ⟨rfl, hb2⟩
          have hbw2 : Below w.heap.size w w2 := hbw.trans (hb2.mono hbw.size)
          have hsz2 := hbw2.size
          have hown2 : w2.ownsRow w.heap.size 24 6 _ xs.length (flat xs) := own_below hown hb2
          go_wp2_with (first | (at_builtin; go_must (refine wpList_append_own _ rfl _ _ 32 rfl w.heap.size 24 i0 (.agg #[.int .i64 0, .int .i64 0, .int .i64 0, .int .i64 0, .int .i64 0, .int .i64 0]) 6 48 Try.underlying32 hi hz0 hz1 hz2 rfl (by decide) _ _ _ rfl ((hown2.alloc _).alloc _) ⟨w2.heap.size + 1, 0, none⟩ 1 1 [.int .i64 x.o, .int .i64 x.d, .int .i64 x.s, .int .i64 x.f, .int .i64 x.i, .int .i64 x.z] rfl rfl ?c1 ?c2 ?c3 ?c4 ?c5 ?_)))
          case c1 => exact news_at w2 _ x
          case c2 => exact news_one x
          case c3 => unfold maxLen; omega
          case c4 => omega
          case c5 => simp; omega
          intro v' w3 hown3 hgrow _
          have hown4 : w3.ownsRow w.heap.size 24 6 v' (xs ++ [x]).length (flat (xs ++ [x])) := by rw [flat_snoc]; simpa using hown3
          have hbw3 : Below w.heap.size w w3 := ((hbw2.alloc hsz2 _).alloc (by simp; omega) _).grown hgrow (by simp; omega) (own_base hown2)
          clear hown hown2 hown3 hgrow
          go_wp2_with fail
          go_roundw
          case rel => exact ⟨j + 8, k + 1, xs ++ [x], by have := HJ.out; omega, by omega, by go_num, gots_step HG.out (by rw [HC.out]; exact HX.out), hown4, hbw3⟩
          case measure => simp [intOf]; omega
        · have HX : Hid _ := hx
          have HGT : Hid _ := c15
          clear hx c14 c15
          go_wp2_with fail
          refine (HGT.out _).mono ?_
          rintro e w2 ⟨rfl, hb2⟩
          go_wp2_with fail
          go_ret2
          exact ⟨_, rfl, by rw [progG_none HG.out (by rw [HC.out]; exact HX.out) HK.out]; rfl, (hbw.trans (hb2.mono hbw.size)).alloc (by have := hbw.size; have := hb2.size; omega) _⟩
      · have hjs' : (s.size : Int) ≤ (j : Int) := by omega
        have hend := progG_end h8 hg (by omega)
        have HE : Hid _ := hend
        clear hend hj hg hxl
        obtain ⟨a, cap, rfl, hA⟩ := own_arg hown
        have HA : Hid _ := hA
        have HO : Hid _ := hown
        clear hA hown
        by_cases hf : formN xs = 0
        · have hf' : (formN xs != 0) = false := by simp [hf]
          have HF : Hid _ := hf
          clear hf
          go_wp2_with fail
          refine (f20a xs _ _ _ HA.out (by omega)).mono ?_
          rintro e w2 ⟨rfl, hb2⟩
          go_wp2_with fail
          go_ret2
          exact ⟨_, rfl, pres_end HO.out hb2 HF.out (by rw [HE.out, if_pos HF.out]), hbw.trans (hb2.mono hbw.size)⟩
        · have hf' : (formN xs != 0) = true := by simp [hf]
          have HF : Hid _ := hf
          clear hf
          go_wp2_with fail
          refine (f20a xs _ _ _ HA.out (by omega)).mono ?_
          rintro e w2 ⟨rfl, hb2⟩
          go_wp2_with fail
          go_ret2
          exact ⟨_, rfl, by rw [HE.out, if_neg HF.out]; rfl, hbw.trans (hb2.mono hbw.size)⟩
  · have h8'' : (((s.size : Int) % 8) != 0) = true := by simp; omega
    have HN : Hid _ := h8
    clear h8
    go_enter Try.func20, Try.ntmps20
    go_wp2_with fail
    go_ret2
    exact ⟨_, rfl, by rw [progG_odd HN.out]; rfl, Below.refl _ _⟩

theorem own_empty (w : World) : (w.alloc (.cells #[] 24)).ownsRow w.heap.size 24 6 (.slice (some ⟨w.heap.size, 0, none⟩) 0 0) 0 [] := by
  refine ⟨rfl, .inr ⟨w.heap.size, 0, #[], rfl, Nat.le_refl _, ?_, Nat.le_refl _, by simp, rfl, rfl⟩⟩
  show (w.heap.push _)[w.heap.size]? = _
  simp

set_option maxRecDepth 100000 in
set_option maxHeartbeats 2000000 in
theorem f24 (s : ByteArray) (w : World) (hs : s.size ≤ 1048576) :
    Calls Try.prog 23 #[.string s] w fun e w' => ∃ v, e = .returned v ∧ PRes w w' (progG s) v ∧ Below w.heap.size w w' := by
  obtain ⟨i0, hi, hz0, hz1, hz2⟩ := info_parts info25
  by_cases h8 : s.size % 8 = 0 ∧ s.size ≤ 384
  · obtain ⟨h8, hsm⟩ := h8
    have hsm' : (s.size : Int) ≤ 384 := by omega
    have h8'' : (((s.size : Int) % 8) != 0) = false := by simp; omega
    go_enter Try.func23, Try.ntmps23
    go_wp2_with fail
    go_loopw [4, 5] (fun v i wr => ∃ (j k : Nat) (xs : List I6), j = 8 * k ∧ j ≤ s.size ∧ i = .int .i64 j ∧ gots s k = some xs ∧ wr.ownsRow w.heap.size 24 6 v xs.length (flat xs) ∧ Below w.heap.size w wr) (fun _ i _ => s.size - (intOf i).toNat)
    case atStart => exact ⟨0, 0, [], rfl, Nat.zero_le _, rfl, rfl, own_empty w, (Below.refl _ _).alloc (Nat.le_refl _) _⟩
    case round =>
      obtain ⟨j, k, xs, hj, hjs, rfl, hg, hown, hbw⟩ := hrel
      have hxl := gots_length hg
      have HJ : Hid _ := hj
      have HG : Hid _ := hg
      have HL : Hid _ := hxl
      have hks : xs.length ≤ 131072 := by omega
      by_cases hlt : j < s.size
      · have hlt' : (j : Int) < (s.size : Int) := by omega
        have hj8 : j + 8 ≤ s.size := by omega
        have hj8' : (j : Int) + 8 ≤ (s.size : Int) := by omega
        have hch : chunk s k = s.extract j (j + 8) := by rw [hj]; rfl
        have HC : Hid _ := hch
        have hkd : k < s.size / 8 := by omega
        have HK : Hid _ := hkd
        clear hj hg hxl hch hkd
        rcases get_cases (s.extract j (j + 8)) with ⟨x, hx, c14, c15⟩ | ⟨hx, c14, c15⟩
        · have HX : Hid _ := hx
          have HGT : Hid _ := c14
          clear hx c14 c15
          go_wp2_with fail
          refine (HGT.out _).mono ?_
          rintro e w2 ⟨rfl, hb2⟩
          have hbw2 : Below w.heap.size w w2 := hbw.trans (hb2.mono hbw.size)
          have hsz2 := hbw2.size
          have hown2 : w2.ownsRow w.heap.size 24 6 _ xs.length (flat xs) := own_below hown hb2
          go_wp2_with (first | (at_builtin; go_must (refine wpList_append_own _ rfl _ _ 32 rfl w.heap.size 24 i0 (.agg #[.int .i64 0, .int .i64 0, .int .i64 0, .int .i64 0, .int .i64 0, .int .i64 0]) 6 48 Try.underlying32 hi hz0 hz1 hz2 rfl (by decide) _ _ _ rfl ((hown2.alloc _).alloc _) ⟨w2.heap.size + 1, 0, none⟩ 1 1 [.int .i64 x.o, .int .i64 x.d, .int .i64 x.s, .int .i64 x.f, .int .i64 x.i, .int .i64 x.z] rfl rfl ?c1 ?c2 ?c3 ?c4 ?c5 ?_)))
          case c1 => exact news_at w2 _ x
          case c2 => exact news_one x
          case c3 => unfold maxLen; omega
          case c4 => omega
          case c5 => simp; omega
          intro v' w3 hown3 hgrow _
          have hown4 : w3.ownsRow w.heap.size 24 6 v' (xs ++ [x]).length (flat (xs ++ [x])) := by rw [flat_snoc]; simpa using hown3
          have hbw3 : Below w.heap.size w w3 := ((hbw2.alloc hsz2 _).alloc (by simp; omega) _).grown hgrow (by simp; omega) (own_base hown2)
          clear hown hown2 hown3 hgrow
          go_wp2_with fail
          go_roundw
          case rel => exact ⟨j + 8, k + 1, xs ++ [x], by have := HJ.out; omega, by omega, by go_num, gots_step HG.out (by rw [HC.out]; exact HX.out), hown4, hbw3⟩
          case measure => simp [intOf]; omega
        · have HX : Hid _ := hx
          have HGT : Hid _ := c14
          clear hx c14 c15
          go_wp2_with fail
          refine (HGT.out _).mono ?_
          rintro e w2 ⟨rfl, hb2⟩
          go_wp2_with fail
          go_ret2
          exact ⟨_, rfl, by rw [progG_none HG.out (by rw [HC.out]; exact HX.out) HK.out]; rfl, (hbw.trans (hb2.mono hbw.size)).alloc (by have := hbw.size; have := hb2.size; omega) _⟩
      · have hjs' : (s.size : Int) ≤ (j : Int) := by omega
        have hend := progG_end h8 hg (by omega)
        have HE : Hid _ := hend
        clear hend hj hg hxl
        obtain ⟨a, cap, rfl, hA⟩ := own_arg hown
        have HA : Hid _ := hA
        have HO : Hid _ := hown
        clear hA hown
        by_cases hf : formN xs = 0
        · have hf' : (formN xs != 0) = false := by simp [hf]
          have HF : Hid _ := hf
          clear hf
          go_wp2_with fail
          refine (f36a xs _ _ _ HA.out (by omega)).mono ?_
          rintro e w2 ⟨rfl, hb2⟩
          go_wp2_with fail
          go_ret2
          exact ⟨_, rfl, pres_end HO.out hb2 HF.out (by rw [HE.out, if_pos HF.out]), hbw.trans (hb2.mono hbw.size)⟩
        · have hf' : (formN xs != 0) = true := by simp [hf]
          have HF : Hid _ := hf
          clear hf
          go_wp2_with fail
          refine (f36a xs _ _ _ HA.out (by omega)).mono ?_
          rintro e w2 ⟨rfl, hb2⟩
          go_wp2_with fail
          go_ret2
          exact ⟨_, rfl, by rw [HE.out, if_neg HF.out]; rfl, hbw.trans (hb2.mono hbw.size)⟩
  · by_cases h8' : s.size % 8 = 0
    · have hbg : (384 : Int) < (s.size : Int) := by omega
      have h8'' : (((s.size : Int) % 8) != 0) = false := by simp; omega
      clear h8
      go_enter Try.func23, Try.ntmps23
      go_wp2_with fail
      go_ret2
      exact ⟨_, rfl, by rw [progG_big (by omega)]; rfl, Below.refl _ _⟩
    · have h8'' : (((s.size : Int) % 8) != 0) = true := by simp; omega
      have HN : Hid _ := h8'
      clear h8' h8
      go_enter Try.func23, Try.ntmps23
      go_wp2_with fail
      go_ret2
      exact ⟨_, rfl, by rw [progG_odd HN.out]; rfl, Below.refl _ _⟩

end Go.Proofs.Ythholhabgdpndaa
