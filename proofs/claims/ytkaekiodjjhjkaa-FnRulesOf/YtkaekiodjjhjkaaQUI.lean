/- A new table, of the specification. -/
import Derived.Test.YtkaekiodjjhjkaaQUH
namespace Go.Proofs.Ytkaekiodjjhjkaa.G
open Go.RowKit
set_option linter.unusedSimpArgs false
set_option linter.unusedVariables false

def keysN (m : Nat) : List Int := (List.range m).map fun (j : Nat) => (j : Int)
theorem keysN_length (m : Nat) : (keysN m).length = m := by simp [keysN]
theorem keys_snoc (m : Nat) : keysN (m + 1) = keysN m ++ [(m : Int)] := by simp [keysN, List.range_succ]
theorem reps_snoc (m : Nat) (z : ByteArray) : (List.replicate (m + 1) z).map Value.string = (List.replicate m z).map Value.string ++ [.string z] := by simp [List.replicate_succ']

set_option maxRecDepth 100000 in
set_option maxHeartbeats 8000000 in
theorem f37row (k : Int) (hk : (k == 1) = true) (n m : Nat) (w : World) (hn : n ≤ 8) (hm : m ≤ 8) :
    Calls Try.prog 84 #[.int .i64 k, .int .i64 n, .int .i64 m] w fun e w' => ∃ V, e = .returned V ∧ Tab w.heap.size w' k n m (keysN m) (List.replicate m (zerosB n)) V ∧ Below w.heap.size w w' := by
  obtain ⟨i0, hi, hz0, hz1, hz2⟩ := info_parts info3
  obtain ⟨j0, hj, hy0, hy1, hy2⟩ := info_parts info9
  have c2 : Below w.heap.size w ((w.alloc (.cells #[.int .i64 0, .int .i64 0, .int .i64 0, .slice none 0 0, .slice none 0 0] 89)).alloc (.cells #[.int .i64 k, .int .i64 n, .int .i64 m, .slice none 0 0, .slice none 0 0] 89)) := ((Below.refl _ w).alloc (Nat.le_refl _) _).alloc (by simp) _
  have bR : Box5 ((w.alloc (.cells #[.int .i64 0, .int .i64 0, .int .i64 0, .slice none 0 0, .slice none 0 0] 89)).alloc (.cells #[.int .i64 k, .int .i64 n, .int .i64 m, .slice none 0 0, .slice none 0 0] 89)) w.heap.size 0 0 0 (.slice none 0 0) (.slice none 0 0) := by
    have := World.alloc_heap_new w (.cells #[.int .i64 0, .int .i64 0, .int .i64 0, .slice none 0 0, .slice none 0 0] 89)
    have h1 : Box5 (w.alloc (.cells #[.int .i64 0, .int .i64 0, .int .i64 0, .slice none 0 0, .slice none 0 0] 89)) w.heap.size 0 0 0 (.slice none 0 0) (.slice none 0 0) := this
    exact Box5.kept h1 (World.grownBy_alloc _ _ none) (by simp)
  have bX : Box5 ((w.alloc (.cells #[.int .i64 0, .int .i64 0, .int .i64 0, .slice none 0 0, .slice none 0 0] 89)).alloc (.cells #[.int .i64 k, .int .i64 n, .int .i64 m, .slice none 0 0, .slice none 0 0] 89)) (w.heap.size + 1) k n m (.slice none 0 0) (.slice none 0 0) := by have := World.alloc_heap_new (w.alloc (.cells #[.int .i64 0, .int .i64 0, .int .i64 0, .slice none 0 0, .slice none 0 0] 89)) (.cells #[.int .i64 k, .int .i64 n, .int .i64 m, .slice none 0 0, .slice none 0 0] 89); simpa [Box5] using this
  have HC2 := hid c2
  have HBR := hid bR
  have HBX0 := hid bX
  clear c2 bR bX
  go_enter Try.func84, Try.ntmps84
  go_wp2_with fail
  go_loopw [8] (fun i wr => ∃ (j : Nat) (v u : Value), j ≤ m ∧ i = .int .i64 j ∧ Box5 wr (w.heap.size + 1) k n m v u ∧ Box5 wr w.heap.size 0 0 0 (.slice none 0 0) (.slice none 0 0) ∧ wr.ownsRow w.heap.size 3 1 v j ((keysN j).map (.int .i64)) ∧ wr.ownsRow w.heap.size 9 1 u j ((List.replicate j (zerosB n)).map .string) ∧ Below w.heap.size w wr) (fun i _ => m - (intOf i).toNat)
  case atStart => exact ⟨0, _, _, Nat.zero_le _, rfl, HBX0.out, HBR.out, World.ownsRow_nil _ _ _ _, World.ownsRow_nil _ _ _ _, HC2.out⟩
  case round =>
    clear HC2 HBR HBX0
    obtain ⟨j, v, u, hjm, rfl, bX, bR, rI, rS, cw⟩ := hrel
    have hsz := cw.size
    have hlt1 := Box5.lt bX
    obtain ⟨t0, t1, t2, t3, t4⟩ := Box5.cells bX
    have HB0 := hid bX
    have HR0 := hid bR
    have HI0 := hid rI
    have HS0 := hid rS
    have HC0 := hid cw
    clear bX bR rI rS cw
    by_cases hlt : j < m
    · have hlt' : (j : Int) < (m : Int) := by omega
      go_wp2_with (first
        | (at_builtin; go_must (refine wpList_append_own _ rfl _ _ 42 rfl w.heap.size 3 i0 (.int .i64 0) 1 8 Try.underlying42 hi hz0 hz1 hz2 rfl (by decide) _ _ _ rfl (World.ownsRow.alloc HI0.out _) ⟨wr.heap.size, 0, none⟩ 1 1 [.int .i64 j] rfl rfl (one_newE _ _ _ _ rfl) (by simp [Value.oneCell']) (by unfold maxLen; omega) (by omega) (by simp; omega) ?_)))
      intro v2 w2 hown2 hgrow2 _
      obtain ⟨ga, ca, rfl⟩ := ownsRow_succ hown2
      obtain ⟨bX2, bX3, rI3, rS3, _, l3⟩ := Box5.app3 HB0.out HI0.out HS0.out hsz (by omega) hown2 hgrow2
      have bR3 := Box5.kept (Box5.kept (Box5.kept HR0.out (World.grownBy_alloc _ _ none) (by simp)) hgrow2 (Box5.not_row HR0.out (by decide) HI0.out)) (grownBy_setCell5 w2 (w.heap.size + 1) 3 (.slice (some ⟨ga, 0, none⟩) (j + 1) ca)) (by simp)
      have cx := HC0.out.trans l3
      obtain ⟨q0, q1, q2, q3, q4⟩ := Box5.cells bX2
      have fq := Box5.frozen bX2
      clear t0 t1 t2 t3 t4
      have HRI := hid rI3
      have HRS := hid rS3
      have HBX := hid bX3
      have HRX := hid bR3
      have HCX := hid cx
      clear rI3 rS3 bX3 bR3 cx hown2 hgrow2 l3
      go_wp2_with fail
      clear q0 q1 q2 q3 q4 fq bX2
      obtain ⟨wx, hwx⟩ : ∃ wx, wx = w2.setCell ⟨w.heap.size + 1, 3, none⟩ (.slice (some ⟨ga, 0, none⟩) (j + 1) ca) := ⟨_, rfl⟩
      rw [← hwx] at HRI HRS HBX HRX HCX ⊢
      clear hwx
      have hzx := HCX.out.size
      have hltx := Box5.lt HBX.out
      obtain ⟨q0, q1, q2, q3, q4⟩ := Box5.cells HBX.out
      obtain ⟨ua, uc, rfl⟩ := own_slice HRS.out
      refine wp_region_held_drew (S := (fun _ => True)) (by kernel_rfl) (trivial) (fun hHeld => ?_)
      refine wpAnyH_take (i := 0) (oi := ?oi1) (v := ?v1) (fuel := 7) ?hi1 ?hs1 ?hf1 ?hr1 ?hq1 (Or.inl ⟨?hw1, ?hy1⟩) hHeld ?rest1
      case hi1 => rw [List.getElem?_toArray]; rfl
      case hq1 => exact fun _ _ _ h => h
      case hs1 => kernel_rfl
      case hf1 => kernel_rfl
      case hr1 => kernel_rfl
      case hw1 => rfl
      case hy1 => (intro w1 hSw; (try dsimp only at hSw); go_simp; try with_reducible rfl)
      (try simp only [Act.put, List.setIfInBounds_toArray, List.set_cons_zero, List.set_cons_succ])
      refine wpAnyH_take (i := 2) (oi := ?oi2) (v := ?v2) (fuel := 6) ?hi2 ?hs2 ?hf2 ?hr2 ?hq2 (Or.inl ⟨?hw2, ?hy2⟩) hHeld ?rest2
      case hi2 => rw [List.getElem?_toArray]; rfl
      case hq2 => exact fun _ _ _ h => h
      case hs2 => kernel_rfl
      case hf2 => kernel_rfl
      case hr2 => kernel_rfl
      case hw2 => rfl
      case hy2 => (intro w1 hSw; (try dsimp only at hSw); go_simp; try with_reducible rfl)
      (try simp only [Act.put, List.setIfInBounds_toArray, List.set_cons_zero, List.set_cons_succ])
      refine wpAnyH_ready (fuel := 5) (rs := [1, 3]) (by kernel_rfl) (by simp) ?_
      refine AllReadyH.cons (o := ?oi3) ?hi3 (fun K hK => ?st3) ?mo3
      case hi3 => rw [List.getElem?_toArray]; rfl
      case st3 =>
        go_simp
        refine hK.out _ _ ?hS3 (fun hHeld => ?re3)
        case hS3 => trivial
        clear hK K
        (try simp only [Act.put, List.setIfInBounds_toArray, List.set_cons_zero, List.set_cons_succ])
        refine wpAnyH_ready (fuel := 4) (rs := [3]) (by kernel_rfl) (by simp) ?_
        refine AllReadyH.cons (o := ?oi4) ?hi4 (fun K hK => ?st4) AllReadyH.nil
        case hi4 => rw [List.getElem?_toArray]; rfl
        go_simp
        refine (f52 n _ hn).mono ?_
        rintro e w3 ⟨rfl, hb3⟩
        have hb3' : Below wx.heap.size wx w3 := (Below.refl _ _).drew.trans hb3
        have bX3 := Box5.below HBX.out hb3' (by omega)
        have bR3 := Box5.below HRX.out hb3' (by omega)
        have rI3 := own_below HRI.out hb3'
        have rS3 := own_below HRS.out hb3'
        have z3 := hb3'.size
        have x3 : w.heap.size + 1 < w3.heap.size := by omega
        obtain ⟨e0, e1, e2, e3, e4⟩ := Box5.cells bX3
        have HB3 := hid bX3
        have HR3 := hid bR3
        have HI3 := hid rI3
        have HS3 := hid rS3
        clear bX3 bR3 rI3 rS3
        go_wp2_with fail
        refine hK.out _ _ ?hS4 (fun hHeld => ?re4)
        case hS4 => trivial
        clear hK K
        (try simp only [Act.put, List.setIfInBounds_toArray, List.set_cons_zero, List.set_cons_succ])
        refine wpAnyH_ready (fuel := 3) (rs := [4]) (by kernel_rfl) (by simp) ?_
        refine AllReadyH.cons (o := ?oi5) ?hi5 (fun K hK => ?st5) AllReadyH.nil
        case hi5 => rw [List.getElem?_toArray]; rfl
        go_simp
        refine hK.out _ _ ?hS5 (fun hHeld => ?re5)
        case hS5 => trivial
        clear hK K
        (try simp only [Act.put, List.setIfInBounds_toArray, List.set_cons_zero, List.set_cons_succ])
        refine wpAnyH_ready (fuel := 2) (rs := [5]) (by kernel_rfl) (by simp) ?_
        refine AllReadyH.cons (o := ?oi6) ?hi6 (fun K hK => ?st6) AllReadyH.nil
        case hi6 => rw [List.getElem?_toArray]; rfl
        rw [if_pos (by first | rfl | kernel_rfl)]
        refine wp_append_own _ _ _ 84 rfl w.heap.size 9 j0 (.string ⟨#[]⟩) 1 16 Try.underlying84 hj hy0 hy1 hy2 rfl (by decide) _ _ _ rfl (World.ownsRow.alloc HS3.out (.cells #[.string (zerosB n)] 9)) ⟨w3.heap.size, 0, none⟩ 1 1 [.string (zerosB n)] rfl rfl (one_newE _ _ _ _ rfl) (by simp [Value.oneCell']) (by unfold maxLen; omega) (by omega) (by simp; omega) ?_
        intro v5 w5 hown5 hgrow5 _
        obtain ⟨gb, cb, rfl⟩ := ownsRow_succ hown5
        obtain ⟨bX5, bX6, rS6, rI6, _, l6⟩ := Box5.app4 HB3.out HS3.out HI3.out (by omega) (by omega) hown5 hgrow5
        have bR6 := Box5.kept (Box5.kept (Box5.kept HR3.out (World.grownBy_alloc _ _ none) (by simp)) hgrow5 (Box5.not_row HR3.out (by decide) HS3.out)) (grownBy_setCell5 w5 (w.heap.size + 1) 4 (.slice (some ⟨gb, 0, none⟩) (j + 1) cb)) (by simp)
        obtain ⟨k0, k1, k2, k3, k4⟩ := Box5.cells bX5
        have fk := Box5.frozen bX5
        have HX6 := hid bX6
        have HR6 := hid bR6
        have HI6 := hid rI6
        have HS6 := hid rS6
        have L6 := hid l6
        clear bX6 bR6 rI6 rS6 l6 hown5 hgrow5
        refine hK.out _ _ ?hS6 (fun hHeld => ?re6)
        case hS6 => trivial
        clear hK K
        (try simp only [Act.put, List.setIfInBounds_toArray, List.set_cons_zero, List.set_cons_succ])
        refine wpAnyH_ready (fuel := 1) (rs := [6]) (by kernel_rfl) (by simp) ?_
        refine AllReadyH.cons (o := ?oi7) ?hi7 (fun K hK => ?st7) AllReadyH.nil
        case hi7 => rw [List.getElem?_toArray]; rfl
        go_simp
        refine hK.out _ _ ?hS7 (fun hHeld => ?re7)
        case hS7 => trivial
        clear hK K
        (try simp only [Act.put, List.setIfInBounds_toArray, List.set_cons_zero, List.set_cons_succ])
        refine wpAnyH_ready (fuel := 0) (rs := [7]) (by kernel_rfl) (by simp) ?_
        refine AllReadyH.cons (o := ?oi8) ?hi8 (fun K hK => ?st8) AllReadyH.nil
        case hi8 => rw [List.getElem?_toArray]; rfl
        go_simp
        refine hK.out _ _ ?hS8 (fun hHeld => ?re8)
        case hS8 => trivial
        clear hK K
        (try simp only [Act.put, List.setIfInBounds_toArray, List.set_cons_zero, List.set_cons_succ])
        refine wpAnyH_done (by kernel_rfl) ?_ _
        clear hHeld
        go_wp2_with fail
        go_roundw
        case rel => exact ⟨j + 1, _, _, by omega, by go_num, HX6.out, HR6.out, by rw [keys_snoc, List.map_append]; simpa using HI6.out, by rw [reps_snoc]; simpa using HS6.out, (HCX.out.trans (hb3'.mono (by omega))).trans L6.out⟩
        case measure => simp [intOf]; omega
      refine AllReadyH.cons (o := ?oi9) ?hi9 (fun K hK => ?st9) ?mo9
      case hi9 => rw [List.getElem?_toArray]; rfl
      case st9 =>
        go_simp
        refine (f52 n _ hn).mono ?_
        rintro e w3 ⟨rfl, hb3⟩
        have hb3' : Below wx.heap.size wx w3 := (Below.refl _ _).drew.trans hb3
        have bX3 := Box5.below HBX.out hb3' (by omega)
        have bR3 := Box5.below HRX.out hb3' (by omega)
        have rI3 := own_below HRI.out hb3'
        have rS3 := own_below HRS.out hb3'
        have z3 := hb3'.size
        have x3 : w.heap.size + 1 < w3.heap.size := by omega
        obtain ⟨e0, e1, e2, e3, e4⟩ := Box5.cells bX3
        have HB3 := hid bX3
        have HR3 := hid bR3
        have HI3 := hid rI3
        have HS3 := hid rS3
        clear bX3 bR3 rI3 rS3
        go_wp2_with fail
        refine hK.out _ _ ?hS9 (fun hHeld => ?re9)
        case hS9 => trivial
        clear hK K
        (try simp only [Act.put, List.setIfInBounds_toArray, List.set_cons_zero, List.set_cons_succ])
        refine wpAnyH_ready (fuel := 4) (rs := [1, 4]) (by kernel_rfl) (by simp) ?_
        refine AllReadyH.cons (o := ?oi10) ?hi10 (fun K hK => ?st10) ?mo10
        case hi10 => rw [List.getElem?_toArray]; rfl
        case st10 =>
          go_simp
          refine hK.out _ _ ?hS10 (fun hHeld => ?re10)
          case hS10 => trivial
          clear hK K
          (try simp only [Act.put, List.setIfInBounds_toArray, List.set_cons_zero, List.set_cons_succ])
          refine wpAnyH_ready (fuel := 3) (rs := [4]) (by kernel_rfl) (by simp) ?_
          refine AllReadyH.cons (o := ?oi11) ?hi11 (fun K hK => ?st11) AllReadyH.nil
          case hi11 => rw [List.getElem?_toArray]; rfl
          go_simp
          refine hK.out _ _ ?hS11 (fun hHeld => ?re11)
          case hS11 => trivial
          clear hK K
          (try simp only [Act.put, List.setIfInBounds_toArray, List.set_cons_zero, List.set_cons_succ])
          refine wpAnyH_ready (fuel := 2) (rs := [5]) (by kernel_rfl) (by simp) ?_
          refine AllReadyH.cons (o := ?oi12) ?hi12 (fun K hK => ?st12) AllReadyH.nil
          case hi12 => rw [List.getElem?_toArray]; rfl
          rw [if_pos (by first | rfl | kernel_rfl)]
          refine wp_append_own _ _ _ 84 rfl w.heap.size 9 j0 (.string ⟨#[]⟩) 1 16 Try.underlying84 hj hy0 hy1 hy2 rfl (by decide) _ _ _ rfl (World.ownsRow.alloc HS3.out (.cells #[.string (zerosB n)] 9)) ⟨w3.heap.size, 0, none⟩ 1 1 [.string (zerosB n)] rfl rfl (one_newE _ _ _ _ rfl) (by simp [Value.oneCell']) (by unfold maxLen; omega) (by omega) (by simp; omega) ?_
          intro v5 w5 hown5 hgrow5 _
          obtain ⟨gb, cb, rfl⟩ := ownsRow_succ hown5
          obtain ⟨bX5, bX6, rS6, rI6, _, l6⟩ := Box5.app4 HB3.out HS3.out HI3.out (by omega) (by omega) hown5 hgrow5
          have bR6 := Box5.kept (Box5.kept (Box5.kept HR3.out (World.grownBy_alloc _ _ none) (by simp)) hgrow5 (Box5.not_row HR3.out (by decide) HS3.out)) (grownBy_setCell5 w5 (w.heap.size + 1) 4 (.slice (some ⟨gb, 0, none⟩) (j + 1) cb)) (by simp)
          obtain ⟨k0, k1, k2, k3, k4⟩ := Box5.cells bX5
          have fk := Box5.frozen bX5
          have HX6 := hid bX6
          have HR6 := hid bR6
          have HI6 := hid rI6
          have HS6 := hid rS6
          have L6 := hid l6
          clear bX6 bR6 rI6 rS6 l6 hown5 hgrow5
          refine hK.out _ _ ?hS12 (fun hHeld => ?re12)
          case hS12 => trivial
          clear hK K
          (try simp only [Act.put, List.setIfInBounds_toArray, List.set_cons_zero, List.set_cons_succ])
          refine wpAnyH_ready (fuel := 1) (rs := [6]) (by kernel_rfl) (by simp) ?_
          refine AllReadyH.cons (o := ?oi13) ?hi13 (fun K hK => ?st13) AllReadyH.nil
          case hi13 => rw [List.getElem?_toArray]; rfl
          go_simp
          refine hK.out _ _ ?hS13 (fun hHeld => ?re13)
          case hS13 => trivial
          clear hK K
          (try simp only [Act.put, List.setIfInBounds_toArray, List.set_cons_zero, List.set_cons_succ])
          refine wpAnyH_ready (fuel := 0) (rs := [7]) (by kernel_rfl) (by simp) ?_
          refine AllReadyH.cons (o := ?oi14) ?hi14 (fun K hK => ?st14) AllReadyH.nil
          case hi14 => rw [List.getElem?_toArray]; rfl
          go_simp
          refine hK.out _ _ ?hS14 (fun hHeld => ?re14)
          case hS14 => trivial
          clear hK K
          (try simp only [Act.put, List.setIfInBounds_toArray, List.set_cons_zero, List.set_cons_succ])
          refine wpAnyH_done (by kernel_rfl) ?_ _
          clear hHeld
          go_wp2_with fail
          go_roundw
          case rel => exact ⟨j + 1, _, _, by omega, by go_num, HX6.out, HR6.out, by rw [keys_snoc, List.map_append]; simpa using HI6.out, by rw [reps_snoc]; simpa using HS6.out, (HCX.out.trans (hb3'.mono (by omega))).trans L6.out⟩
          case measure => simp [intOf]; omega
        refine AllReadyH.cons (o := ?oi15) ?hi15 (fun K hK => ?st15) ?mo15
        case hi15 => rw [List.getElem?_toArray]; rfl
        case st15 =>
          go_simp
          refine hK.out _ _ ?hS15 (fun hHeld => ?re15)
          case hS15 => trivial
          clear hK K
          (try simp only [Act.put, List.setIfInBounds_toArray, List.set_cons_zero, List.set_cons_succ])
          refine wpAnyH_ready (fuel := 3) (rs := [1]) (by kernel_rfl) (by simp) ?_
          refine AllReadyH.cons (o := ?oi16) ?hi16 (fun K hK => ?st16) AllReadyH.nil
          case hi16 => rw [List.getElem?_toArray]; rfl
          go_simp
          refine hK.out _ _ ?hS16 (fun hHeld => ?re16)
          case hS16 => trivial
          clear hK K
          (try simp only [Act.put, List.setIfInBounds_toArray, List.set_cons_zero, List.set_cons_succ])
          refine wpAnyH_ready (fuel := 2) (rs := [5]) (by kernel_rfl) (by simp) ?_
          refine AllReadyH.cons (o := ?oi17) ?hi17 (fun K hK => ?st17) AllReadyH.nil
          case hi17 => rw [List.getElem?_toArray]; rfl
          rw [if_pos (by first | rfl | kernel_rfl)]
          refine wp_append_own _ _ _ 84 rfl w.heap.size 9 j0 (.string ⟨#[]⟩) 1 16 Try.underlying84 hj hy0 hy1 hy2 rfl (by decide) _ _ _ rfl (World.ownsRow.alloc HS3.out (.cells #[.string (zerosB n)] 9)) ⟨w3.heap.size, 0, none⟩ 1 1 [.string (zerosB n)] rfl rfl (one_newE _ _ _ _ rfl) (by simp [Value.oneCell']) (by unfold maxLen; omega) (by omega) (by simp; omega) ?_
          intro v5 w5 hown5 hgrow5 _
          obtain ⟨gb, cb, rfl⟩ := ownsRow_succ hown5
          obtain ⟨bX5, bX6, rS6, rI6, _, l6⟩ := Box5.app4 HB3.out HS3.out HI3.out (by omega) (by omega) hown5 hgrow5
          have bR6 := Box5.kept (Box5.kept (Box5.kept HR3.out (World.grownBy_alloc _ _ none) (by simp)) hgrow5 (Box5.not_row HR3.out (by decide) HS3.out)) (grownBy_setCell5 w5 (w.heap.size + 1) 4 (.slice (some ⟨gb, 0, none⟩) (j + 1) cb)) (by simp)
          obtain ⟨k0, k1, k2, k3, k4⟩ := Box5.cells bX5
          have fk := Box5.frozen bX5
          have HX6 := hid bX6
          have HR6 := hid bR6
          have HI6 := hid rI6
          have HS6 := hid rS6
          have L6 := hid l6
          clear bX6 bR6 rI6 rS6 l6 hown5 hgrow5
          refine hK.out _ _ ?hS17 (fun hHeld => ?re17)
          case hS17 => trivial
          clear hK K
          (try simp only [Act.put, List.setIfInBounds_toArray, List.set_cons_zero, List.set_cons_succ])
          refine wpAnyH_ready (fuel := 1) (rs := [6]) (by kernel_rfl) (by simp) ?_
          refine AllReadyH.cons (o := ?oi18) ?hi18 (fun K hK => ?st18) AllReadyH.nil
          case hi18 => rw [List.getElem?_toArray]; rfl
          go_simp
          refine hK.out _ _ ?hS18 (fun hHeld => ?re18)
          case hS18 => trivial
          clear hK K
          (try simp only [Act.put, List.setIfInBounds_toArray, List.set_cons_zero, List.set_cons_succ])
          refine wpAnyH_ready (fuel := 0) (rs := [7]) (by kernel_rfl) (by simp) ?_
          refine AllReadyH.cons (o := ?oi19) ?hi19 (fun K hK => ?st19) AllReadyH.nil
          case hi19 => rw [List.getElem?_toArray]; rfl
          go_simp
          refine hK.out _ _ ?hS19 (fun hHeld => ?re19)
          case hS19 => trivial
          clear hK K
          (try simp only [Act.put, List.setIfInBounds_toArray, List.set_cons_zero, List.set_cons_succ])
          refine wpAnyH_done (by kernel_rfl) ?_ _
          clear hHeld
          go_wp2_with fail
          go_roundw
          case rel => exact ⟨j + 1, _, _, by omega, by go_num, HX6.out, HR6.out, by rw [keys_snoc, List.map_append]; simpa using HI6.out, by rw [reps_snoc]; simpa using HS6.out, (HCX.out.trans (hb3'.mono (by omega))).trans L6.out⟩
          case measure => simp [intOf]; omega
        exact AllReadyH.nil
      exact AllReadyH.nil
    · obtain rfl : j = m := by omega
      have R5 := row_st5 HR0.out (by decide) HI0.out (k' := k) (s' := n) (r' := j) (v' := v) (u' := u)
      have T5 := row_st5 HR0.out (by decide) HS0.out (k' := k) (s' := n) (r' := j) (v' := v) (u' := u)
      have B5 := st5_below (w.heap.size) k n j v u HC0.out (by omega)
      have P5 := Box5.cells (Box5.st5 HR0.out (k' := k) (s' := n) (r' := j) (v' := v) (u' := u))
      obtain ⟨va, vc, rfl⟩ := own_slice HI0.out
      obtain ⟨ua, uc, rfl⟩ := own_slice HS0.out
      obtain ⟨y0, y1, y2, y3, y4⟩ := Box5.cells HR0.out
      have fR := Box5.frozen HR0.out
      have HR5 := hid R5
      have HT5 := hid T5
      have HB5 := hid B5
      have HP5 := hid P5
      clear R5 T5 B5 P5
      go_wp2_with fail
      obtain ⟨p0, p1, p2, p3, p4⟩ := HP5.out
      unfold st5 at p0 p1 p2 p3 p4
      refine bodyPost_ret (v := .agg #[.int .i64 k, .int .i64 n, .int .i64 j, .slice va j vc, .slice ua j uc]) (by simp [results, Try.results84, go_sem, p0, p1, p2, p3, p4]) rfl ?_
      exact ⟨_, rfl, ⟨_, _, rfl, by rw [keysN_length]; exact HR5.out, by rw [List.length_replicate]; exact HT5.out⟩, HB5.out⟩

end Go.Proofs.Ytkaekiodjjhjkaa.G
