/- The walks of the laws FnFramePut and FnFrameCut. -/
import Derived.Test.YtgdefengkacnfaaFF
import Derived.Test.YtgdefengkacnfaaFM6
namespace Go.Proofs.Ytgdefengkacnfaa
open Go.RowKit
set_option linter.unusedVariables false
set_option linter.unusedSimpArgs false

theorem bto {w w' w'' : World} (h : Below w.heap.size w w') (hb : Below w'.heap.size w' w'') : Below w.heap.size w w'' := h.trans (hb.mono h.size)
theorem ArgS.new (w : World) (l : List ByteArray) (t : TypeId) : ArgS (w.alloc (.cells (l.map Value.string).toArray t (0, 0))) (some ⟨w.heap.size, 0, none⟩) l := by
  have h := SL.new w l t
  refine .inr ⟨_, 0, rfl, h.1, fun k hk => ?_⟩
  rw [Nat.zero_add, h.2 k hk, List.getD, List.getElem?_eq_getElem hk]
  rfl

set_option maxRecDepth 100000 in
set_option maxHeartbeats 4000000 in
theorem law_fnFramePut (w : World) (a : Option Addr) (len cap : Nat) (hc : len ≤ cap) (hs : Src w a len) (hl : cap < 2 ^ 63) :
    Calls Try.prog 3 #[.slice a len cap] w fun e w' => e = .returned (.bool true) ∧ Below w.heap.size w w' := by
  have HS := hid hs
  clear hs
  go_enter Try.func3, Try.ntmps3
  go_wp2_with fail
  · go_ret
    exact ⟨rfl, Below.refl _ _⟩
  refine (drawPut_w w a len cap hc HS.out hl).mono ?_
  rintro e w1 ⟨v, rfl, hv, b1⟩
  clear HS
  by_cases hf : isF v
  · obtain ⟨h1, h2⟩ := cut_twice hf
    have hz := put_size hf
    have hz1 := hf.1
    have hz2 := hf.2
    clear hf
    go_wp2_with fail
    refine (fput_c v _).mono ?_
    rintro e w2 ⟨rfl, b2⟩
    replace b1 := b1.trans (b2.mono b1.size)
    clear b2
    go_wp2_with fail
    refine (sfput_c v _).mono ?_
    rintro e w3 ⟨rfl, b3⟩
    replace b1 := b1.trans (b3.mono b1.size)
    clear b3
    generalize putF v = f at *
    have hne := list_ne (show 0 < f.size by omega)
    have hfI : (f.size : Int) = (v.size : Int) + 1 := by omega
    have hvI : (v.size : Int) ≤ 12 := by omega
    have hvJ : 1 ≤ (v.size : Int) := by omega
    have H1 := hid h1
    have H2 := hid h2
    have HZ := hid hz
    have HI := hid hfI
    have hfL : (f.size : Int) ≤ 13 := by omega
    have hfM : (1 : Int) ≤ (f.size : Int) := by omega
    clear h1 h2 hz hfI
    go_wp2_with fail
    refine (cut_c (f ++ f ++ f.extract 0 (f.size - 1)) _ (by rw [ByteArray.size_append, ByteArray.size_append, ByteArray.size_extract]; omega)).mono ?_
    rintro e w4 ⟨ws, r, q, x, rfl, hr, hwl, o4, b4⟩
    obtain ⟨rfl, rfl, rfl⟩ : ws = [v, v] ∧ r = f.extract 0 (f.size - 1) ∧ q = true := by
      rw [if_pos (by rw [ByteArray.size_append, ByteArray.size_append, ByteArray.size_extract]; omega), H1.out, H2.out] at hr
      simpa using hr
    replace b1 := b1.trans (b4.mono b1.size)
    obtain ⟨a4, c4, rfl, A4, _, _⟩ := own_strs o4
    have HA := hid (A4.below ((Below.refl w4.heap.size w4).alloc (Nat.le_refl _) (.cells #[.string v, .string v] 9)) (Nat.le_refl _))
    have HN : Hid (ArgS (w4.alloc (.cells #[.string v, .string v] 9)) (some ⟨w4.heap.size, 0, none⟩) [v, v]) := ArgS.new w4 [v, v] 9
    clear hr o4 A4 b4
    go_wp2_with fail
    refine (sgTexts_c [v, v] _ _ _ _ _ HA.out HN.out (by simp)).mono ?_
    rintro e w5 ⟨rfl, b5⟩
    replace b1 := bto (b1.alloc b1.size (.cells #[.string v, .string v] 9)) b5
    go_wp2_with fail
    go_ret
    exact ⟨by simp, b1⟩
  · have hp : putF v = ⟨#[]⟩ := by
      unfold putF
      rw [if_neg]
      intro h
      apply hf
      simp [inB] at h
      exact ⟨by omega, by omega⟩
    by_cases h0 : 0 < v.size
    · have h12 : (12 : Int) < (v.size : Int) := by
        have : ¬ (1 ≤ v.size ∧ v.size ≤ 12) := hf
        omega
      clear hf
      go_wp2_with fail
      refine (fput_c v _).mono ?_
      rw [hp]
      rintro e w2 ⟨rfl, b2⟩
      replace b1 := b1.trans (b2.mono b1.size)
      clear b2
      go_wp2_with fail
      refine (sfput_c v _).mono ?_
      rw [hp]
      rintro e w3 ⟨rfl, b3⟩
      replace b1 := b1.trans (b3.mono b1.size)
      clear b3
      go_wp2_with fail
      refine (sfput_c v _).mono ?_
      rw [hp]
      rintro e w4 ⟨rfl, b4⟩
      replace b1 := b1.trans (b4.mono b1.size)
      clear b4
      go_wp2_with fail
      all_goals (go_ret; exact ⟨by simp, b1⟩)
    · obtain rfl := empty_is h0
      clear hf h0
      go_wp2_with fail
      refine (fput_c ⟨#[]⟩ _).mono ?_
      rw [hp]
      rintro e w2 ⟨rfl, b2⟩
      replace b1 := b1.trans (b2.mono b1.size)
      clear b2
      go_wp2_with fail
      refine (sfput_c ⟨#[]⟩ _).mono ?_
      rw [hp]
      rintro e w3 ⟨rfl, b3⟩
      replace b1 := b1.trans (b3.mono b1.size)
      clear b3
      go_wp2_with fail
      refine (sfput_c ⟨#[]⟩ _).mono ?_
      rw [hp]
      rintro e w4 ⟨rfl, b4⟩
      replace b1 := b1.trans (b4.mono b1.size)
      clear b4
      go_wp2_with fail
      all_goals (go_ret; exact ⟨by simp, b1⟩)
end Go.Proofs.Ytgdefengkacnfaa
