/- Contracts of frames: bytes are cut, by the specification. -/
import Derived.Test.YtgdefengkacnfaaFC
namespace Go.Proofs.Ytgdefengkacnfaa
open Go.RowKit
set_option linter.unusedVariables false
set_option linter.unusedSimpArgs false

set_option maxRecDepth 100000 in
set_option maxHeartbeats 4000000 in
theorem frames_c (s : ByteArray) (w : World) (h0 : s.size ≤ 120) : Calls Try.prog 25 #[.string s] w (CutAns w s) := by
  obtain ⟨j0, hj, hy0, hy1, hy2⟩ := info_parts info9
  have c0 : Below w.heap.size w (w.alloc (.cells #[] 9)) := (Below.refl _ _).alloc (Nat.le_refl _) _
  have o0 : (w.alloc (.cells #[] 9)).ownsRow w.heap.size 9 1 (.slice (some ⟨w.heap.size, 0, none⟩) 0 0) 0 [] := made0 w _ _ 9 rfl (Nat.le_refl _)
  have HC0 := hid c0
  have HO0 := hid o0
  clear c0 o0
  have h0' : (s.size : Int) ≤ 120 := by omega
  go_enter Try.func25, Try.ntmps25
  go_wp2_with fail
  go_loopw [0, 5] (fun sv out wr => ∃ (ws : List ByteArray) (r : ByteArray), sv = .string r ∧ r.size + ws.length ≤ 120 ∧ (cutF s).1 = ws ++ (cutF r).1 ∧ (cutF s).2 = (cutF r).2 ∧ wr.ownsRow w.heap.size 9 1 out ws.length (ws.map .string) ∧ Below w.heap.size w wr) (fun sv _ _ => strSz sv)
  case atStart => exact ⟨[], s, rfl, by simpa using h0, by simp, rfl, HO0.out, HC0.out⟩
  case round =>
    obtain ⟨ws, r, rfl, hl, hc1, hc2, hown, hbw⟩ := hrel
    have hsz := hbw.size
    obtain ⟨a0, cap0, rfl⟩ := own_slice hown
    have HO := hid hown
    have HC1 := hid hc1
    have HC2 := hid hc2
    have HW := hid hbw
    clear hown hc1 hc2 hbw HC0 HO0
    have hrI : (r.size : Int) ≤ 120 := by omega
    have hwI : (ws.length : Int) ≤ 120 := by omega
    have fin : firstF r = none → (ws, r, okR r) = (if s.size ≤ 120 then ((cutF s).1, (cutF s).2, okR (cutF s).2) else ([], ⟨#[]⟩, false)) := by
      intro hf
      have hcr := cut_none hf
      rw [if_pos h0, HC1.out, HC2.out, hcr]; simp
    have FN := hid fin
    clear fin
    by_cases hr0 : 0 < r.size
    · obtain ⟨b, e0, hb⟩ := hd_at hr0
      have l0 : (b.toNat : Int) ≤ 255 := by have := b.toNat_lt; omega
      have m0 : (0 : Int) ≤ (b.toNat : Int) := by omega
      have hr0' : (0 : Int) < (r.size : Int) := by omega
      have hok : okR r = inB (b.toNat : Int) 1 12 := by simp [okR, hr0, hb]
      cases hin : inB (b.toNat : Int) 1 12
      · have HR := hid (FN.out (by simp [firstF, hb, hin]))
        rw [hok, hin] at HR
        clear FN HC1 HC2 hok hb
        go_wp2_with fail
        refine (f36 _ _ _ _).mono ?_
        rintro e w2 ⟨rfl, hw⟩
        rw [hw, hin]
        clear hw w2
        go_wp2_with fail
        refine bodyPost_ret (v := .tuple #[.slice a0 ws.length cap0, .string r, .bool false]) (by simp [results, Try.results25, go_sem]) rfl ?_
        exact ⟨ws, r, false, _, rfl, HR.out, by omega, HO.out, HW.out⟩
      · by_cases hsh : b.toNat + 1 ≤ r.size
        · obtain ⟨x, hx⟩ : ∃ y, y = r.extract 1 (b.toNat + 1) := ⟨_, rfl⟩
          have hf : firstF r = some x := by
            have := hin
            simp [inB] at this
            rw [hx]; unfold firstF; rw [hb, if_pos ⟨hr0, hin, hsh⟩]
          have hcr := cut_some hf
          have hxs : x.size = b.toNat := by rw [hx]; simp; omega
          rw [hxs] at hcr
          obtain ⟨r2, hr2⟩ : ∃ y, y = r.extract (b.toNat + 1) r.size := ⟨_, rfl⟩
          have hz2 : r2.size = r.size - (b.toNat + 1) := by rw [hr2]; simp
          rw [← hr2] at hcr
          have HC3 : Hid ((cutF s).1 = ws ++ [x] ++ (cutF r2).1) := by rw [HC1.out, hcr]; show _ = _; simp
          have HC4 : Hid ((cutF s).2 = (cutF r2).2) := by rw [HC2.out, hcr]; exact rfl
          have hshI : (b.toNat : Int) + 1 ≤ (r.size : Int) := by omega
          have hx' := hx.symm
          have hr2' := hr2.symm
          have HZ := hid hz2
          clear hcr hf HC1 HC2 hr2 hx hz2 FN hok hb hxs
          go_wp2_with fail
          refine (f36 _ _ _ _).mono ?_
          rintro e w2 ⟨rfl, hw⟩
          rw [hw, hin]
          clear hw w2
          go_wp2_with (first | (at_builtin; go_must (refine wpList_append_own _ rfl _ _ 25 rfl w.heap.size 9 j0 (.string ⟨#[]⟩) 1 16 Try.underlying25 hj hy0 hy1 hy2 rfl (by decide) _ _ _ rfl (World.ownsRow.alloc HO.out _) ⟨wr.heap.size, 0, none⟩ 1 1 [.string x] rfl (by simp) (one_newE _ _ _ _ rfl) (by simp [Value.oneCell']) (by unfold maxLen; omega) (by omega) (by simp; omega) ?_)))
          intro v' w3 hown3 hgrow _
          have hb3 : Below w.heap.size w w3 := (HW.out.alloc (by omega) _).grown hgrow (by simp; omega) (own_base HO.out)
          have H3 := hid (row_snoc hown3)
          have HB3 := hid hb3
          clear hown3 hgrow hb3
          go_wp2_with fail
          go_roundw
          case rel => exact ⟨ws ++ [x], r2, rfl, by have := HZ.out; simp; omega, HC3.out, HC4.out, H3.out, HB3.out⟩
          case measure => have := HZ.out; simp [strSz]; omega
        · have HR := hid (FN.out (by simp [firstF, hb, hin]; omega))
          rw [hok, hin] at HR
          have hsh' : (r.size : Int) < (b.toNat : Int) + 1 := by omega
          clear FN HC1 HC2 hok hb hsh
          go_wp2_with fail
          refine (f36 _ _ _ _).mono ?_
          rintro e w2 ⟨rfl, hw⟩
          rw [hw, hin]
          clear hw w2
          go_wp2_with fail
          refine bodyPost_ret (v := .tuple #[.slice a0 ws.length cap0, .string r, .bool true]) (by simp [results, Try.results25, go_sem]) rfl ?_
          exact ⟨ws, r, true, _, rfl, HR.out, by omega, HO.out, HW.out⟩
    · have HR := hid (FN.out (by unfold firstF; rw [if_neg]; omega))
      obtain rfl := empty_is hr0
      clear FN HC1 HC2
      go_wp2_with fail
      refine bodyPost_ret (v := .tuple #[.slice a0 ws.length cap0, .string ⟨#[]⟩, .bool true]) (by simp [results, Try.results25, go_sem]) rfl ?_
      exact ⟨ws, ⟨#[]⟩, true, _, rfl, HR.out, by omega, HO.out, HW.out⟩

set_option maxRecDepth 100000 in
set_option maxHeartbeats 4000000 in
theorem scut_c (s : ByteArray) (w : World) (hs : s.size ≤ 1048576) : Calls Try.prog 13 #[.string s] w (CutAns w s) := by
  by_cases h0 : s.size ≤ 120
  · have h0' : (s.size : Int) ≤ 120 := by omega
    go_enter Try.func13, Try.ntmps13
    go_wp2_with fail
    refine (frames_c s _ h0).mono ?_
    rintro e w1 ⟨ws, r, q, v, rfl, h1, h2, h3, h4⟩
    have H1 := hid h1
    have H3 := hid h3
    clear h1 h3
    go_wp2_with fail
    refine bodyPost_ret (v := .tuple #[v, .string r, .bool q]) (by simp [results, Try.results13, go_sem]) rfl ?_
    exact ⟨ws, r, q, v, rfl, H1.out, h2, H3.out, h4⟩
  · have h0' : (120 : Int) < (s.size : Int) := by omega
    go_enter Try.func13, Try.ntmps13
    go_wp2_with fail
    refine bodyPost_ret (v := .tuple #[.slice none 0 0, .string ⟨#[]⟩, .bool false]) (by simp [results, Try.results13, go_sem]) rfl ?_
    exact ⟨[], ⟨#[]⟩, false, _, rfl, by rw [if_neg h0], by simp, World.ownsRow_nil _ _ _ _, Below.refl _ _⟩
end Go.Proofs.Ytgdefengkacnfaa
