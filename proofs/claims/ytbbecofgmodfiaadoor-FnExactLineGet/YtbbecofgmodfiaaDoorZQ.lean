/- LineGet of the program: of what is no line of an op that is ok it is none. -/
import Derived.Test.YtbbecofgmodfiaaDoorNK
namespace Go.Proofs.YtbbecofgmodfiaaDoor
open Go.RowKit
set_option linter.unusedVariables false
set_option linter.unusedSimpArgs false

theorem words_of : ∀ l : List UInt8, ∃ W : List ByteArray, W ≠ [] ∧ (∀ x ∈ W, No32 x) ∧ (⟨l.toArray⟩ : ByteArray) = joinW W
  | [] => ⟨[⟨#[]⟩], by simp, by intro x hx; simp at hx; subst hx; unfold No32; decide, rfl⟩
  | b :: l => by
    obtain ⟨W, h1, h2, h3⟩ := words_of l
    have e : (⟨(b :: l).toArray⟩ : ByteArray) = ⟨#[b]⟩ ++ ⟨l.toArray⟩ := by
      apply ByteArray.ext
      apply Array.toList_inj.1
      rw [ByteArray.data_append, Array.toList_append]
      rfl
    by_cases hb : b = 32
    · refine ⟨⟨#[]⟩ :: W, by simp, ?_, ?_⟩
      · intro x hx
        rcases List.mem_cons.1 hx with rfl | hx
        · unfold No32; decide
        · exact h2 x hx
      · rw [e, h3, hb]
        match W, h1 with
        | w :: r, _ => 
          show _ = (⟨#[]⟩ : ByteArray) ++ (SP_ ++ joinW (w :: r))
          apply ByteArray.ext
          apply Array.toList_inj.1
          simp only [ByteArray.data_append, Array.toList_append]
          rfl
    · match W, h1, h2, h3 with
      | w :: r, _, h2, h3 =>
        refine ⟨(⟨#[b]⟩ ++ w) :: r, by simp, ?_, ?_⟩
        · intro x hx
          rcases List.mem_cons.1 hx with rfl | hx
          · refine no_app ?_ (h2 w (by simp))
            unfold No32
            simp
            exact fun h => hb h.symm
          · exact h2 x (List.mem_cons_of_mem _ hx)
        · rw [e, h3]
          match r with
          | [] => rfl
          | v :: r' =>
            show _ ++ (w ++ (SP_ ++ joinW (v :: r'))) = (_ ++ w) ++ (SP_ ++ joinW (v :: r'))
            rw [ByteArray.append_assoc]
theorem word_le : ∀ W : List ByteArray, ∀ x ∈ W, x.size ≤ (joinW W).size
  | [], x, h => by simp at h
  | [w], x, h => by simp at h; subst h; exact Nat.le_refl _
  | w :: v :: r, x, h => by
    have hj : joinW (w :: v :: r) = w ++ (SP_ ++ joinW (v :: r)) := rfl
    rw [hj, ByteArray.size_append, ByteArray.size_append]
    rcases List.mem_cons.1 h with rfl | h
    · omega
    · have := word_le (v :: r) x h
      omega
theorem parts_size (o : Int) : (partsS o).size ≤ 3 := by
  unfold partsS
  repeat (split; · decide)
  decide
theorem parts_byte (o : Int) : ∀ k (h : k < (partsS o).size), ((partsS o)[k]'h).toNat = 100 ∨ ((partsS o)[k]'h).toNat = 120 ∨ ((partsS o)[k]'h).toNat = 111 ∨ ((partsS o)[k]'h).toNat = 99 := by
  have key : ∀ x : ByteArray, (x = ⟨#[100, 120]⟩ ∨ x = ⟨#[100, 120, 111]⟩ ∨ x = ⟨#[100, 111, 120]⟩ ∨ x = ⟨#[111]⟩ ∨ x = ⟨#[99]⟩ ∨ x = ⟨#[]⟩) → ∀ k (h : k < x.size), (x[k]'h).toNat = 100 ∨ (x[k]'h).toNat = 120 ∨ (x[k]'h).toNat = 111 ∨ (x[k]'h).toNat = 99 := by
    intro x hx
    rcases hx with rfl | rfl | rfl | rfl | rfl | rfl <;> decide
  refine key _ ?_
  unfold partsS
  split
  · simp
  split
  · simp
  split
  · simp
  split
  · simp
  split
  · simp
  · simp
theorem first_pos : ∀ k, k < 21 → 1 ≤ k → 0 < (wordsL.getD k ⟨#[]⟩).size := by decide +kernel
theorem firstS_pos {k z : Nat} (h1 : 1 ≤ k) (h2 : k ≤ 20) : 0 < (firstS k z).size := by
  have := first_pos k (by omega) h1
  unfold firstS
  split
  · rw [ByteArray.size_append]; omega
  · exact this
theorem gpartA (p : Nat) (hp : p = 100 ∨ p = 120 ∨ p = 111 ∨ p = 99) (o d s f i z : Int) (x : ByteArray) (hx : x.size ≤ 281474976710656) (w : World) (hT : TabsG w) : Calls Tryd.prog 21 #[.agg #[.int .i64 o, .int .i64 d, .int .i64 s, .int .i64 f, .int .i64 i, .int .i64 z], .int .u8 (p : Int), .string x] w fun e w' => (∃ (a1 a2 a3 a4 : Int) (q : Bool), e = .returned (.tuple #[.agg #[.int .i64 o, .int .i64 a1, .int .i64 a2, .int .i64 a3, .int .i64 a4, .int .i64 z], .bool q])) ∧ Below w.heap.size w w' := by
  rcases hp with rfl | rfl | rfl | rfl
  · refine (gpart_d o d s f i z x hx w hT).mono ?_
    rintro e w' ⟨⟨a, q, ha, rfl⟩, hb⟩
    exact ⟨⟨_, _, _, _, _, rfl⟩, hb⟩
  · refine (gpart_x o d s f i z x hx w hT).mono ?_
    rintro e w' ⟨⟨a, ha, rfl⟩ | ⟨b, q, hbq, rfl⟩, hb⟩
    · exact ⟨⟨_, _, _, _, _, rfl⟩, hb⟩
    · exact ⟨⟨_, _, _, _, _, rfl⟩, hb⟩
  · refine (gpart_o o d s f i z x hx w hT).mono ?_
    rintro e w' ⟨⟨a, q, ha, rfl⟩, hb⟩
    exact ⟨⟨_, _, _, _, _, rfl⟩, hb⟩
  · refine (gpart_c o d s f i z x hx w hT).mono ?_
    rintro e w' ⟨⟨a, q, ha, rfl⟩, hb⟩
    exact ⟨⟨_, _, _, _, _, rfl⟩, hb⟩
set_option maxRecDepth 100000 in
set_option maxHeartbeats 4000000 in
theorem getNoI (S : ByteArray) (hS1 : S.size ≤ 1048576) (hno : ∀ o d s f i z : Int, sokB o d s f i z = true → S ≠ lineS o d s f i z) (w : World) (hT : TabsG w) :
    Calls Tryd.prog 9 #[.string S] w fun e w' => e = .returned (.tuple #[.agg #[.int .i64 0, .int .i64 0, .int .i64 0, .int .i64 0, .int .i64 0, .int .i64 0], .bool false]) ∧ Below w.heap.size w w' := by
  have HT := hid hT
  have HNO := hid hno
  have HX0 := hid (D6.new w 0 0 0 0 0 0 25)
  have HZ0 := hid (belA w (.cells #[.int .i64 0, .int .i64 0, .int .i64 0, .int .i64 0, .int .i64 0, .int .i64 0] 25))
  obtain ⟨W, hWn, hno2, hS⟩ := words_of S.data.toList
  have hS : S = joinW W := by rw [← hS]
  have HSP := hid (fun w' => splitW W S w' hWn hno2 hS (by omega))
  have HWS := hid (fun k (h : k < W.length) => (show (W.getD k ⟨#[]⟩).size ≤ S.size by
    rw [hS, List.getD, List.getElem?_eq_getElem h]
    exact word_le W _ (List.getElem_mem _)))
  obtain ⟨m, hm⟩ : ∃ m, m = W.length := ⟨_, rfl⟩
  have hm0 : 1 ≤ m := by rw [hm]; exact List.length_pos_iff.2 hWn
  rw [← hm] at HSP
  have HM := hid hm
  clear hT hWn hno2 hS hm hno
  go_enter Tryd.func9, Tryd.ntmps9
  go_wp2_with fail
  refine (HSP.out _).mono ?_
  rintro e w1 ⟨rfl, hw⟩
  have hsl := SL.new (w.alloc (.cells #[.int .i64 0, .int .i64 0, .int .i64 0, .int .i64 0, .int .i64 0, .int .i64 0] 25)) W 9
  have b1 := belA (w.alloc (.cells #[.int .i64 0, .int .i64 0, .int .i64 0, .int .i64 0, .int .i64 0, .int .i64 0] 25)) (.cells (W.map Value.string).toArray 9)
  rw [← hw] at b1 hsl
  have HX := hid (HX0.out.bel b1)
  have HZ := hid (HZ0.out.to b1)
  have hL : w.heap.size < (w.alloc (.cells #[.int .i64 0, .int .i64 0, .int .i64 0, .int .i64 0, .int .i64 0, .int .i64 0] 25)).heap.size := by simp
  have hL2 := hsl.1
  have HSL := hid hsl
  clear hw b1 hsl HX0 HZ0 HSP
  generalize (w.alloc (.cells #[.int .i64 0, .int .i64 0, .int .i64 0, .int .i64 0, .int .i64 0, .int .i64 0] 25)).heap.size = L at *
  have c0 := HSL.out.2 0 (by rw [← HM.out]; omega)
  obtain ⟨x0, hx0⟩ : ∃ x, x = W.getD 0 ⟨#[]⟩ := ⟨_, rfl⟩
  rw [← hx0] at c0
  have hx0s : x0.size ≤ S.size := by rw [hx0]; exact HWS.out 0 (by rw [← HM.out]; omega)
  clear hx0
  have hm1 : (1 : Int) ≤ (m : Int) := by omega
  go_wp2_with fail
  refine (firstG_w x0 _ (HT.out.t.below HZ.out)).mono ?_
  rintro e w2 ⟨⟨y, hy, rfl⟩, b2⟩
  replace HX := hid (HX.out.bel b2)
  replace HSL := hid (HSL.out.below b2)
  replace HZ := hid (HZ.out.to b2)
  have hL3 : L < w2.heap.size := Nat.lt_of_lt_of_le hL2 b2.size
  clear b2 c0
  have hS0 : (∃ k z : Nat, 1 ≤ k ∧ k ≤ 20 ∧ firstS k z = x0) → ¬ S.size = 0 := by
    rintro ⟨k, z, h1, h2, rfl⟩
    have := firstS_pos (z := z) h1 h2
    omega
  rcases hy.out with ⟨on, z, hon1, hon2, hz, hfit, hfst, rfl⟩ | ⟨_, rfl⟩
  rotate_left
  · clear hy hS0
    have HB5 := hid (D6.new w2 0 0 0 0 0 0 25)
    have b3 := belA w2 (.cells #[.int .i64 0, .int .i64 0, .int .i64 0, .int .i64 0, .int .i64 0, .int .i64 0] 25)
    have HX3 := hid (HX.out.bel b3)
    have HSL3 := hid (HSL.out.below b3)
    have HZ3 := hid (HZ.out.to b3)
    clear b3 HX HSL HZ
    go_wp2_with fail
    generalize w2.alloc (.cells #[.int .i64 0, .int .i64 0, .int .i64 0, .int .i64 0, .int .i64 0, .int .i64 0] 25) = w3 at *
    obtain ⟨B, hB⟩ : ∃ B, B = w2.heap.size := ⟨_, rfl⟩
    rw [← hB] at hL3 HB5 ⊢
    have HBE := hid hB
    have hwB : w.heap.size < B := by omega
    clear hB hL2
    refine (parts_w _ _).mono ?_
    rintro e w' ⟨rfl, hw⟩
    rw [hw]
    clear hw w'
    obtain ⟨pb, hpb⟩ : ∃ pb : ByteArray, pb = partsS 0 := ⟨_, rfl⟩
    have hp3 : (pb.size : Int) ≤ 3 := by have := parts_size 0; rw [hpb]; omega
    rw [← hpb]
    clear hpb
    obtain ⟨c0, c1, c2, c3, c4, c5, cl, cf⟩ := HB5.out
    obtain ⟨r0, r1, r2, r3, r4, r5, rl, rf⟩ := HX3.out
    go_wp2_with fail
    refine bodyPost_ret (v := .tuple #[.agg #[.int .i64 0, .int .i64 0, .int .i64 0, .int .i64 0, .int .i64 0, .int .i64 0], .bool false]) (by simp [results, Tryd.results9, go_sem, r0, r1, r2, r3, r4, r5]) rfl ⟨rfl, ?_⟩
    exact stD_below HZ3.out (Nat.le_refl _) 0 0 0 0 0 0
  · clear hy
    have hse := hS0 ⟨on, z, hon1, hon2, hfst⟩
    clear hS0 hfst hfit
    have HB5 := hid (D6.new w2 (on : Int) 0 (-1) 0 0 (z : Int) 25)
    have b3 := belA w2 (.cells #[.int .i64 (on : Int), .int .i64 0, .int .i64 (-1), .int .i64 0, .int .i64 0, .int .i64 (z : Int)] 25)
    have HX3 := hid (HX.out.bel b3)
    have HSL3 := hid (HSL.out.below b3)
    have HZ3 := hid (HZ.out.to b3)
    clear b3 HX HSL HZ
    go_wp2_with fail
    generalize w2.alloc (.cells #[.int .i64 (on : Int), .int .i64 0, .int .i64 (-1), .int .i64 0, .int .i64 0, .int .i64 (z : Int)] 25) = w3 at *
    obtain ⟨B, hB⟩ : ∃ B, B = w2.heap.size := ⟨_, rfl⟩
    rw [← hB] at hL3 HB5 ⊢
    have HBE := hid hB
    have hwB : w.heap.size < B := by omega
    clear hB hL2
    refine (parts_w _ _).mono ?_
    rintro e w' ⟨rfl, hw⟩
    rw [hw]
    clear hw w'
    obtain ⟨pb, hpb⟩ : ∃ pb : ByteArray, pb = partsS (on : Int) := ⟨_, rfl⟩
    have hp3 : (pb.size : Int) ≤ 3 := by have := parts_size (on : Int); rw [hpb]; omega
    have HPB := hid (show ∀ k (h : k < pb.size), (pb[k]'h).toNat = 100 ∨ (pb[k]'h).toNat = 120 ∨ (pb[k]'h).toNat = 111 ∨ (pb[k]'h).toNat = 99 by rw [hpb]; exact parts_byte _)
    rw [← hpb]
    clear hpb
    have hne : ((on : Int) == 0) = false := by simp; omega
    by_cases hlen : m = pb.size + 1
    rotate_left
    · have hlm : ((m : Int) != (pb.size : Int) + 1) = true := by simp; omega
      obtain ⟨c0, c1, c2, c3, c4, c5, cl, cf⟩ := HB5.out
      obtain ⟨r0, r1, r2, r3, r4, r5, rl, rf⟩ := HX3.out
      go_wp2_with fail
      refine bodyPost_ret (v := .tuple #[.agg #[.int .i64 0, .int .i64 0, .int .i64 0, .int .i64 0, .int .i64 0, .int .i64 0], .bool false]) (by simp [results, Tryd.results9, go_sem, r0, r1, r2, r3, r4, r5]) rfl ⟨rfl, ?_⟩
      exact stD_below HZ3.out (Nat.le_refl _) 0 0 0 0 0 0
    have hlm : ((m : Int) != (pb.size : Int) + 1) = false := by simp; omega
    have HML := hid hlen
    clear hlen hm0
    obtain ⟨c0, c1, c2, c3, c4, c5, cl, cf⟩ := HB5.out
    go_wp2_with fail
    clear c0 c1 c2 c3 c4 c5 cl cf hne hlm hm1
    go_loopw [7] (fun i_ wr => ∃ (k : Nat) (d' s' f' i' : Int), k ≤ pb.size ∧ i_ = .int .i64 k ∧ Hid (Below w.heap.size w wr) ∧ Hid (D6 wr w.heap.size 0 0 0 0 0 0) ∧ Hid (SL wr L W) ∧ Hid (D6 wr B (on : Int) d' s' f' i' (z : Int))) (fun i_ _ => pb.size - (intOf i_).toNat)
    case atStart => exact ⟨0, 0, -1, 0, 0, Nat.zero_le _, rfl, HZ3, HX3, HSL3, HB5⟩
    case round =>
      clear HZ3 HX3 HSL3 HB5
      obtain ⟨k, d', s', f', i', hk, rfl, HZ, HX, HSL, HB⟩ := hrel
      by_cases hlt : k < pb.size
      · have hk0 : (0 : Int) ≤ (k : Int) := by omega
        have hml := HML.out
        have hlt' : (k : Int) < (pb.size : Int) := by omega
        obtain ⟨k1, hk1⟩ : ∃ k1, k1 = k + 1 := ⟨_, rfl⟩
        have hk1a : (0 : Int) ≤ (k1 : Int) := by omega
        have hk1b : (k1 : Int) < (m : Int) := by omega
        have hw6 : IntKind.i64.wrap ((k : Int) + 1) = (k1 : Int) := by rw [IntKind.wrap_i64]; omega
        have ck := HSL.out.2 k1 (by rw [← HM.out]; omega)
        have hxz := HWS.out k1 (by rw [← HM.out]; omega)
        have HK1 := hid hk1
        clear hk1 hml
        obtain ⟨x, hx⟩ : ∃ x, x = W.getD k1 ⟨#[]⟩ := ⟨_, rfl⟩
        rw [← hx] at ck hxz
        clear hx
        have hxz : x.size ≤ 281474976710656 := by omega
        obtain ⟨p, hp⟩ : ∃ p, p = (pb[k]'hlt).toNat := ⟨_, rfl⟩
        have hpA := HPB.out k hlt
        rw [← hp] at hpA
        have HPA := hid hpA
        have hbk : (pb[k]'hlt).toNat = p := hp.symm
        clear hp hpA
        have CK := hid ck
        obtain ⟨b0, b1, b2, b3, b4, b5, bl, bf⟩ := HB.out
        go_wp2_with fail
        refine wp_region_held_drew (S := (fun w' => w'.cell? ⟨B, 0, none⟩ = some (.int .i64 (on : Int)) ∧ w'.cell? ⟨B, 1, none⟩ = some (.int .i64 d') ∧ w'.cell? ⟨B, 2, none⟩ = some (.int .i64 s') ∧ w'.cell? ⟨B, 3, none⟩ = some (.int .i64 f') ∧ w'.cell? ⟨B, 4, none⟩ = some (.int .i64 i') ∧ w'.cell? ⟨B, 5, none⟩ = some (.int .i64 (z : Int)) ∧ w'.cell? ⟨L, k1, none⟩ = some (.string x))) (by kernel_rfl) (by exact ⟨HB.out.c0, HB.out.c1, HB.out.c2, HB.out.c3, HB.out.c4, HB.out.c5, ck⟩) (fun hHeld => ?_)
        have bd : Below wr.heap.size wr wr.drew := (Below.refl _ _).drew
        clear ck
        replace HX := hid (HX.out.bel bd)
        replace CK := hid ((bd.cell (p := ⟨L, k1, none⟩) HSL.out.1).trans CK.out)
        replace HSL := hid (HSL.out.below bd)
        replace HB := hid (HB.out.bel bd)
        replace HZ := hid (HZ.out.to bd)
        clear bd
        generalize wr.drew = W1 at *
        refine wpAnyH_take (i := 0) (oi := ?oi1) (v := ?v1) (fuel := 15) ?hi1 ?hs1 ?hf1 ?hr1 ?hq1 (Or.inl ⟨?hw1, ?hy1⟩) hHeld ?rest1
        case hi1 => rw [List.getElem?_toArray]; rfl
        case hq1 => exact fun _ _ _ h => h
        case hs1 | hf1 | hr1 => kernel_rfl
        case hw1 => rfl
        case hy1 => (intro w1 hSw; (try dsimp only at hSw); go_simp; try with_reducible rfl)
        (try simp only [Act.put, List.setIfInBounds_toArray, List.set_cons_zero, List.set_cons_succ])
        refine wpAnyH_take (i := 1) (oi := ?oi2) (v := ?v2) (fuel := 14) ?hi2 ?hs2 ?hf2 ?hr2 ?hq2 (Or.inl ⟨?hw2, ?hy2⟩) hHeld ?rest2
        case hi2 => rw [List.getElem?_toArray]; rfl
        case hq2 => exact fun _ _ _ h => h
        case hs2 | hf2 | hr2 => kernel_rfl
        case hw2 => rfl
        case hy2 => (intro w1 hSw; (try dsimp only at hSw); go_simp; try with_reducible rfl)
        (try simp only [Act.put, List.setIfInBounds_toArray, List.set_cons_zero, List.set_cons_succ])
        refine wpAnyH_take (i := 2) (oi := ?oi3) (v := ?v3) (fuel := 13) ?hi3 ?hs3 ?hf3 ?hr3 ?hq3 (Or.inl ⟨?hw3, ?hy3⟩) hHeld ?rest3
        case hi3 => rw [List.getElem?_toArray]; rfl
        case hq3 => exact fun _ _ _ h => h
        case hs3 | hf3 | hr3 => kernel_rfl
        case hw3 => rfl
        case hy3 => (intro w1 hSw; (try dsimp only at hSw); go_simp; try with_reducible rfl)
        (try simp only [Act.put, List.setIfInBounds_toArray, List.set_cons_zero, List.set_cons_succ])
        refine wpAnyH_take (i := 3) (oi := ?oi4) (v := .int .u8 (p : Int)) (fuel := 12) ?hi4 ?hs4 ?hf4 ?hr4 ?hq4 (Or.inl ⟨?hw4, ?hy4⟩) hHeld ?rest4
        case hi4 => rw [List.getElem?_toArray]; rfl
        case hq4 => exact fun _ _ _ h => h
        case hs4 | hf4 | hr4 => kernel_rfl
        case hw4 => rfl
        case hy4 => (intro w1 hSw; (try dsimp only at hSw); go_simp; try (first | rfl | simp [hbk]))
        (try simp only [Act.put, List.setIfInBounds_toArray, List.set_cons_zero, List.set_cons_succ])
        refine wpAnyH_take (i := 4) (oi := ?oi5) (v := ?v5) (fuel := 11) ?hi5 ?hs5 ?hf5 ?hr5 ?hq5 (Or.inl ⟨?hw5, ?hy5⟩) hHeld ?rest5
        case hi5 => rw [List.getElem?_toArray]; rfl
        case hq5 => exact fun _ _ _ h => h
        case hs5 | hf5 | hr5 => kernel_rfl
        case hw5 => rfl
        case hy5 => (intro w1 hSw; (try dsimp only at hSw); go_simp; try with_reducible rfl)
        (try simp only [Act.put, List.setIfInBounds_toArray, List.set_cons_zero, List.set_cons_succ])
        refine wpAnyH_take (i := 5) (oi := ?oi6) (v := ?v6) (fuel := 10) ?hi6 ?hs6 ?hf6 ?hr6 ?hq6 (Or.inl ⟨?hw6, ?hy6⟩) hHeld ?rest6
        case hi6 => rw [List.getElem?_toArray]; rfl
        case hq6 => exact fun _ _ _ h => h
        case hs6 | hf6 | hr6 => kernel_rfl
        case hw6 => rfl
        case hy6 => (intro w1 hSw; (try dsimp only at hSw); go_simp; try with_reducible rfl)
        (try simp only [Act.put, List.setIfInBounds_toArray, List.set_cons_zero, List.set_cons_succ])
        refine wpAnyH_take (i := 6) (oi := ?oi7) (v := .int .i64 (k1 : Int)) (fuel := 9) ?hi7 ?hs7 ?hf7 ?hr7 ?hq7 (Or.inl ⟨?hw7, ?hy7⟩) hHeld ?rest7
        case hi7 => rw [List.getElem?_toArray]; rfl
        case hq7 => exact fun _ _ _ h => h
        case hs7 | hf7 | hr7 => kernel_rfl
        case hw7 => rfl
        case hy7 => (intro w1 hSw; (try dsimp only at hSw); go_simp; try simp [hw6])
        (try simp only [Act.put, List.setIfInBounds_toArray, List.set_cons_zero, List.set_cons_succ])
        refine wpAnyH_take (i := 7) (oi := ?oi8) (v := ?v8) (fuel := 8) ?hi8 ?hs8 ?hf8 ?hr8 ?hq8 (Or.inl ⟨?hw8, ?hy8⟩) hHeld ?rest8
        case hi8 => rw [List.getElem?_toArray]; rfl
        case hq8 => exact fun _ _ _ h => h
        case hs8 | hf8 | hr8 => kernel_rfl
        case hw8 => rfl
        case hy8 => (intro w1 hSw; (try dsimp only at hSw); go_simp; try with_reducible rfl)
        (try simp only [Act.put, List.setIfInBounds_toArray, List.set_cons_zero, List.set_cons_succ])
        refine wpAnyH_take (i := 8) (oi := ?oi9) (v := ?v9) (fuel := 7) ?hi9 ?hs9 ?hf9 ?hr9 ?hq9 (Or.inl ⟨?hw9, ?hy9⟩) hHeld ?rest9
        case hi9 => rw [List.getElem?_toArray]; rfl
        case hq9 => exact fun _ _ _ h => h
        case hs9 | hf9 | hr9 => kernel_rfl
        case hw9 => rfl
        case hy9 => (intro w1 hSw; (try dsimp only at hSw); go_simp; try with_reducible rfl)
        (try simp only [Act.put, List.setIfInBounds_toArray, List.set_cons_zero, List.set_cons_succ])
        refine wpAnyH_ready (fuel := 6) (rs := [9, 13]) (by kernel_rfl) (by simp) ?_
        refine AllReadyH.cons (o := ?oi10) ?hi10 (fun K hK => ?st10) ?mo10
        case hi10 => rw [List.getElem?_toArray]; rfl
        case st10 =>
          go_simp
          refine (gpartA p HPA.out _ _ _ _ _ _ x hxz _ (HT.out.below HZ.out)).mono ?_
          rintro ee wr9 ⟨⟨a1, a2, a3, a4, q, rfl⟩, bq⟩
          replace HX := hid (HX.out.bel bq)
          replace CK := hid ((bq.cell (p := ⟨L, k1, none⟩) HSL.out.1).trans CK.out)
          replace HSL := hid (HSL.out.below bq)
          replace HB := hid (HB.out.bel bq)
          replace HZ := hid (HZ.out.to bq)
          clear bq
          go_wp2_with fail
          refine hK.out _ _ ?hS10 (fun hHeld => ?re10)
          case hS10 => exact ⟨HB.out.c0, HB.out.c1, HB.out.c2, HB.out.c3, HB.out.c4, HB.out.c5, CK.out⟩
          clear hK K
          (try simp only [Act.put, List.setIfInBounds_toArray, List.set_cons_zero, List.set_cons_succ])
          refine wpAnyH_take (i := 10) (oi := ?oi11) (v := ?v11) (fuel := 5) ?hi11 ?hs11 ?hf11 ?hr11 ?hq11 (Or.inl ⟨?hw11, ?hy11⟩) hHeld ?rest11
          case hi11 => rw [List.getElem?_toArray]; rfl
          case hq11 => exact fun _ _ _ h => h
          case hs11 | hf11 | hr11 => kernel_rfl
          case hw11 => rfl
          case hy11 => (intro w1 hSw; (try dsimp only at hSw); go_simp; try with_reducible rfl)
          (try simp only [Act.put, List.setIfInBounds_toArray, List.set_cons_zero, List.set_cons_succ])
          refine wpAnyH_take (i := 11) (oi := ?oi12) (v := ?v12) (fuel := 4) ?hi12 ?hs12 ?hf12 ?hr12 ?hq12 (Or.inl ⟨?hw12, ?hy12⟩) hHeld ?rest12
          case hi12 => rw [List.getElem?_toArray]; rfl
          case hq12 => exact fun _ _ _ h => h
          case hs12 | hf12 | hr12 => kernel_rfl
          case hw12 => rfl
          case hy12 => (intro w1 hSw; (try dsimp only at hSw); go_simp; try with_reducible rfl)
          (try simp only [Act.put, List.setIfInBounds_toArray, List.set_cons_zero, List.set_cons_succ])
          refine wpAnyH_take (i := 12) (oi := ?oi13) (v := ?v13) (fuel := 3) ?hi13 ?hs13 ?hf13 ?hr13 ?hq13 (Or.inl ⟨?hw13, ?hy13⟩) hHeld ?rest13
          case hi13 => rw [List.getElem?_toArray]; rfl
          case hq13 => exact fun _ _ _ h => h
          case hs13 | hf13 | hr13 => kernel_rfl
          case hw13 => rfl
          case hy13 => (intro w1 hSw; (try dsimp only at hSw); go_simp; try with_reducible rfl)
          (try simp only [Act.put, List.setIfInBounds_toArray, List.set_cons_zero, List.set_cons_succ])
          refine wpAnyH_ready (fuel := 2) (rs := [13]) (by kernel_rfl) (by simp) ?_
          refine AllReadyH.cons (o := ?oi14) ?hi14 (fun K hK => ?st14) AllReadyH.nil
          case hi14 => rw [List.getElem?_toArray]; rfl
          go_simp
          have H8 := hid (D6.new wr9 0 0 0 0 0 0 25)
          have bA := belA wr9 (.cells #[.int .i64 0, .int .i64 0, .int .i64 0, .int .i64 0, .int .i64 0, .int .i64 0] 25)
          have lG1 := HX.out.lt
          have lG2 := HB.out.lt
          have lG3 := HSL.out.1
          replace HX := hid (HX.out.bel bA)
          replace CK := hid ((bA.cell (p := ⟨L, k1, none⟩) HSL.out.1).trans CK.out)
          replace HSL := hid (HSL.out.below bA)
          replace HB := hid (HB.out.bel bA)
          replace HZ := hid (HZ.out.to bA)
          clear bA
          generalize wr9.alloc (.cells #[.int .i64 0, .int .i64 0, .int .i64 0, .int .i64 0, .int .i64 0, .int .i64 0] 25) = wr13 at *
          generalize wr9.heap.size = G at *
          refine hK.out _ _ ?hS14 (fun hHeld => ?re14)
          case hS14 => exact ⟨HB.out.c0, HB.out.c1, HB.out.c2, HB.out.c3, HB.out.c4, HB.out.c5, CK.out⟩
          clear hK K
          (try simp only [Act.put, List.setIfInBounds_toArray, List.set_cons_zero, List.set_cons_succ])
          refine wpAnyH_ready (fuel := 1) (rs := [14]) (by kernel_rfl) (by simp) ?_
          refine AllReadyH.cons (o := ?oi15) ?hi15 (fun K hK => ?st15) AllReadyH.nil
          case hi15 => rw [List.getElem?_toArray]; rfl
          obtain ⟨e0, e1, e2, e3, e4, e5, el, ef⟩ := H8.out
          go_simp
          clear e0 e1 e2 e3 e4 e5 el ef
          have HX9 : D6 ((((((wr13.setCell ⟨G, 0, none⟩ (.int .i64 (on : Int))).setCell ⟨G, 1, none⟩ (.int .i64 a1)).setCell ⟨G, 2, none⟩ (.int .i64 a2)).setCell ⟨G, 3, none⟩ (.int .i64 a3)).setCell ⟨G, 4, none⟩ (.int .i64 a4)).setCell ⟨G, 5, none⟩ (.int .i64 (z : Int))) w.heap.size 0 0 0 0 0 0 := D6.stO HX.out (by omega) (on : Int) a1 a2 a3 a4 (z : Int)
          have HSL9 : SL ((((((wr13.setCell ⟨G, 0, none⟩ (.int .i64 (on : Int))).setCell ⟨G, 1, none⟩ (.int .i64 a1)).setCell ⟨G, 2, none⟩ (.int .i64 a2)).setCell ⟨G, 3, none⟩ (.int .i64 a3)).setCell ⟨G, 4, none⟩ (.int .i64 a4)).setCell ⟨G, 5, none⟩ (.int .i64 (z : Int))) L W := SL.stO HSL.out (by omega) (on : Int) a1 a2 a3 a4 (z : Int)
          have HB9 : D6 ((((((wr13.setCell ⟨G, 0, none⟩ (.int .i64 (on : Int))).setCell ⟨G, 1, none⟩ (.int .i64 a1)).setCell ⟨G, 2, none⟩ (.int .i64 a2)).setCell ⟨G, 3, none⟩ (.int .i64 a3)).setCell ⟨G, 4, none⟩ (.int .i64 a4)).setCell ⟨G, 5, none⟩ (.int .i64 (z : Int))) B (on : Int) d' s' f' i' (z : Int) := D6.stO HB.out (by omega) (on : Int) a1 a2 a3 a4 (z : Int)
          have H89 : D6 ((((((wr13.setCell ⟨G, 0, none⟩ (.int .i64 (on : Int))).setCell ⟨G, 1, none⟩ (.int .i64 a1)).setCell ⟨G, 2, none⟩ (.int .i64 a2)).setCell ⟨G, 3, none⟩ (.int .i64 a3)).setCell ⟨G, 4, none⟩ (.int .i64 a4)).setCell ⟨G, 5, none⟩ (.int .i64 (z : Int))) G (on : Int) a1 a2 a3 a4 (z : Int) := D6.st H8.out (on : Int) a1 a2 a3 a4 (z : Int)
          have HZ9 : Below w.heap.size w ((((((wr13.setCell ⟨G, 0, none⟩ (.int .i64 (on : Int))).setCell ⟨G, 1, none⟩ (.int .i64 a1)).setCell ⟨G, 2, none⟩ (.int .i64 a2)).setCell ⟨G, 3, none⟩ (.int .i64 a3)).setCell ⟨G, 4, none⟩ (.int .i64 a4)).setCell ⟨G, 5, none⟩ (.int .i64 (z : Int))) := stD_below HZ.out (by omega) (on : Int) a1 a2 a3 a4 (z : Int)
          have CK9 : (((((((wr13.setCell ⟨G, 0, none⟩ (.int .i64 (on : Int))).setCell ⟨G, 1, none⟩ (.int .i64 a1)).setCell ⟨G, 2, none⟩ (.int .i64 a2)).setCell ⟨G, 3, none⟩ (.int .i64 a3)).setCell ⟨G, 4, none⟩ (.int .i64 a4)).setCell ⟨G, 5, none⟩ (.int .i64 (z : Int)))).cell? ⟨L, k1, none⟩ = some (.string x) := ((World.cell?_setCell_other _ _ _ _ (by intro e; injection e; omega)).trans ((World.cell?_setCell_other _ _ _ _ (by intro e; injection e; omega)).trans ((World.cell?_setCell_other _ _ _ _ (by intro e; injection e; omega)).trans ((World.cell?_setCell_other _ _ _ _ (by intro e; injection e; omega)).trans ((World.cell?_setCell_other _ _ _ _ (by intro e; injection e; omega)).trans ((World.cell?_setCell_other _ _ _ _ (by intro e; injection e; omega)).trans CK.out))))))
          clear HX HSL HB H8 HZ CK
          generalize ((((((wr13.setCell ⟨G, 0, none⟩ (.int .i64 (on : Int))).setCell ⟨G, 1, none⟩ (.int .i64 a1)).setCell ⟨G, 2, none⟩ (.int .i64 a2)).setCell ⟨G, 3, none⟩ (.int .i64 a3)).setCell ⟨G, 4, none⟩ (.int .i64 a4)).setCell ⟨G, 5, none⟩ (.int .i64 (z : Int))) = wr14 at *
          have HX := hid HX9
          have HSL := hid HSL9
          have HB := hid HB9
          have H8 := hid H89
          have HZ := hid HZ9
          have CK := hid CK9
          clear HX9 HSL9 HB9 H89 HZ9 CK9
          refine hK.out _ _ ?hS15 (fun hHeld => ?re15)
          case hS15 => exact ⟨HB.out.c0, HB.out.c1, HB.out.c2, HB.out.c3, HB.out.c4, HB.out.c5, CK.out⟩
          clear hK K
          (try simp only [Act.put, List.setIfInBounds_toArray, List.set_cons_zero, List.set_cons_succ])
          refine wpAnyH_take (i := 15) (oi := ?oi16) (v := ?v16) (fuel := 0) ?hi16 ?hs16 ?hf16 ?hr16 ?hq16 (Or.inl ⟨?hw16, ?hy16⟩) hHeld ?rest16
          case hi16 => rw [List.getElem?_toArray]; rfl
          case hq16 => exact fun _ _ _ h => h
          case hs16 | hf16 | hr16 => kernel_rfl
          case hw16 => rfl
          case hy16 => (intro w1 hSw; (try dsimp only at hSw); go_simp; try with_reducible rfl)
          (try simp only [Act.put, List.setIfInBounds_toArray, List.set_cons_zero, List.set_cons_succ])
          refine wpAnyH_done (by kernel_rfl) ?_ _
          clear hHeld hbk hw6
          cases q
          · obtain ⟨e0, e1, e2, e3, e4, e5, el, ef⟩ := H8.out
            obtain ⟨b0, b1, b2, b3, b4, b5, bl, bf⟩ := HB.out
            obtain ⟨r0, r1, r2, r3, r4, r5, rl, rf⟩ := HX.out
            go_wp2_with fail
            refine bodyPost_ret (v := .tuple #[.agg #[.int .i64 0, .int .i64 0, .int .i64 0, .int .i64 0, .int .i64 0, .int .i64 0], .bool false]) (by simp [results, Tryd.results9, go_sem, r0, r1, r2, r3, r4, r5]) rfl ⟨rfl, ?_⟩
            exact stD_below HZ.out (Nat.le_refl _) 0 0 0 0 0 0
          · obtain ⟨e0, e1, e2, e3, e4, e5, el, ef⟩ := H8.out
            obtain ⟨b0, b1, b2, b3, b4, b5, bl, bf⟩ := HB.out
            go_wp2_with fail
            go_roundw
            case rel => exact ⟨k + 1, a1, a2, a3, a4, by omega, by go_num, hid (stD_below HZ.out (by omega) (on : Int) a1 a2 a3 a4 (z : Int)), hid (D6.stO HX.out (by omega) (on : Int) a1 a2 a3 a4 (z : Int)), hid (SL.stO HSL.out (by omega) (on : Int) a1 a2 a3 a4 (z : Int)), hid (D6.st HB.out (on : Int) a1 a2 a3 a4 (z : Int))⟩
            case measure => simp [intOf]; omega
        refine AllReadyH.cons (o := ?oi17) ?hi17 (fun K hK => ?st17) ?mo17
        case hi17 => rw [List.getElem?_toArray]; rfl
        case st17 =>
          go_simp
          have H8 := hid (D6.new W1 0 0 0 0 0 0 25)
          have bA := belA W1 (.cells #[.int .i64 0, .int .i64 0, .int .i64 0, .int .i64 0, .int .i64 0, .int .i64 0] 25)
          have lG1 := HX.out.lt
          have lG2 := HB.out.lt
          have lG3 := HSL.out.1
          replace HX := hid (HX.out.bel bA)
          replace CK := hid ((bA.cell (p := ⟨L, k1, none⟩) HSL.out.1).trans CK.out)
          replace HSL := hid (HSL.out.below bA)
          replace HB := hid (HB.out.bel bA)
          replace HZ := hid (HZ.out.to bA)
          clear bA
          generalize W1.alloc (.cells #[.int .i64 0, .int .i64 0, .int .i64 0, .int .i64 0, .int .i64 0, .int .i64 0] 25) = wr13 at *
          generalize W1.heap.size = G at *
          refine hK.out _ _ ?hS17 (fun hHeld => ?re17)
          case hS17 => exact ⟨HB.out.c0, HB.out.c1, HB.out.c2, HB.out.c3, HB.out.c4, HB.out.c5, CK.out⟩
          clear hK K
          (try simp only [Act.put, List.setIfInBounds_toArray, List.set_cons_zero, List.set_cons_succ])
          refine wpAnyH_ready (fuel := 5) (rs := [9]) (by kernel_rfl) (by simp) ?_
          refine AllReadyH.cons (o := ?oi18) ?hi18 (fun K hK => ?st18) AllReadyH.nil
          case hi18 => rw [List.getElem?_toArray]; rfl
          go_simp
          refine (gpartA p HPA.out _ _ _ _ _ _ x hxz _ (HT.out.below HZ.out)).mono ?_
          rintro ee wr9 ⟨⟨a1, a2, a3, a4, q, rfl⟩, bq⟩
          replace HX := hid (HX.out.bel bq)
          replace CK := hid ((bq.cell (p := ⟨L, k1, none⟩) HSL.out.1).trans CK.out)
          replace HSL := hid (HSL.out.below bq)
          replace HB := hid (HB.out.bel bq)
          replace H8 := hid (H8.out.bel bq)
          replace HZ := hid (HZ.out.to bq)
          clear bq
          go_wp2_with fail
          refine hK.out _ _ ?hS18 (fun hHeld => ?re18)
          case hS18 => exact ⟨HB.out.c0, HB.out.c1, HB.out.c2, HB.out.c3, HB.out.c4, HB.out.c5, CK.out⟩
          clear hK K
          (try simp only [Act.put, List.setIfInBounds_toArray, List.set_cons_zero, List.set_cons_succ])
          refine wpAnyH_take (i := 10) (oi := ?oi19) (v := ?v19) (fuel := 4) ?hi19 ?hs19 ?hf19 ?hr19 ?hq19 (Or.inl ⟨?hw19, ?hy19⟩) hHeld ?rest19
          case hi19 => rw [List.getElem?_toArray]; rfl
          case hq19 => exact fun _ _ _ h => h
          case hs19 | hf19 | hr19 => kernel_rfl
          case hw19 => rfl
          case hy19 => (intro w1 hSw; (try dsimp only at hSw); go_simp; try with_reducible rfl)
          (try simp only [Act.put, List.setIfInBounds_toArray, List.set_cons_zero, List.set_cons_succ])
          refine wpAnyH_take (i := 11) (oi := ?oi20) (v := ?v20) (fuel := 3) ?hi20 ?hs20 ?hf20 ?hr20 ?hq20 (Or.inl ⟨?hw20, ?hy20⟩) hHeld ?rest20
          case hi20 => rw [List.getElem?_toArray]; rfl
          case hq20 => exact fun _ _ _ h => h
          case hs20 | hf20 | hr20 => kernel_rfl
          case hw20 => rfl
          case hy20 => (intro w1 hSw; (try dsimp only at hSw); go_simp; try with_reducible rfl)
          (try simp only [Act.put, List.setIfInBounds_toArray, List.set_cons_zero, List.set_cons_succ])
          refine wpAnyH_take (i := 12) (oi := ?oi21) (v := ?v21) (fuel := 2) ?hi21 ?hs21 ?hf21 ?hr21 ?hq21 (Or.inl ⟨?hw21, ?hy21⟩) hHeld ?rest21
          case hi21 => rw [List.getElem?_toArray]; rfl
          case hq21 => exact fun _ _ _ h => h
          case hs21 | hf21 | hr21 => kernel_rfl
          case hw21 => rfl
          case hy21 => (intro w1 hSw; (try dsimp only at hSw); go_simp; try with_reducible rfl)
          (try simp only [Act.put, List.setIfInBounds_toArray, List.set_cons_zero, List.set_cons_succ])
          refine wpAnyH_ready (fuel := 1) (rs := [14]) (by kernel_rfl) (by simp) ?_
          refine AllReadyH.cons (o := ?oi22) ?hi22 (fun K hK => ?st22) AllReadyH.nil
          case hi22 => rw [List.getElem?_toArray]; rfl
          obtain ⟨e0, e1, e2, e3, e4, e5, el, ef⟩ := H8.out
          go_simp
          clear e0 e1 e2 e3 e4 e5 el ef
          have HX9 : D6 ((((((wr9.setCell ⟨G, 0, none⟩ (.int .i64 (on : Int))).setCell ⟨G, 1, none⟩ (.int .i64 a1)).setCell ⟨G, 2, none⟩ (.int .i64 a2)).setCell ⟨G, 3, none⟩ (.int .i64 a3)).setCell ⟨G, 4, none⟩ (.int .i64 a4)).setCell ⟨G, 5, none⟩ (.int .i64 (z : Int))) w.heap.size 0 0 0 0 0 0 := D6.stO HX.out (by omega) (on : Int) a1 a2 a3 a4 (z : Int)
          have HSL9 : SL ((((((wr9.setCell ⟨G, 0, none⟩ (.int .i64 (on : Int))).setCell ⟨G, 1, none⟩ (.int .i64 a1)).setCell ⟨G, 2, none⟩ (.int .i64 a2)).setCell ⟨G, 3, none⟩ (.int .i64 a3)).setCell ⟨G, 4, none⟩ (.int .i64 a4)).setCell ⟨G, 5, none⟩ (.int .i64 (z : Int))) L W := SL.stO HSL.out (by omega) (on : Int) a1 a2 a3 a4 (z : Int)
          have HB9 : D6 ((((((wr9.setCell ⟨G, 0, none⟩ (.int .i64 (on : Int))).setCell ⟨G, 1, none⟩ (.int .i64 a1)).setCell ⟨G, 2, none⟩ (.int .i64 a2)).setCell ⟨G, 3, none⟩ (.int .i64 a3)).setCell ⟨G, 4, none⟩ (.int .i64 a4)).setCell ⟨G, 5, none⟩ (.int .i64 (z : Int))) B (on : Int) d' s' f' i' (z : Int) := D6.stO HB.out (by omega) (on : Int) a1 a2 a3 a4 (z : Int)
          have H89 : D6 ((((((wr9.setCell ⟨G, 0, none⟩ (.int .i64 (on : Int))).setCell ⟨G, 1, none⟩ (.int .i64 a1)).setCell ⟨G, 2, none⟩ (.int .i64 a2)).setCell ⟨G, 3, none⟩ (.int .i64 a3)).setCell ⟨G, 4, none⟩ (.int .i64 a4)).setCell ⟨G, 5, none⟩ (.int .i64 (z : Int))) G (on : Int) a1 a2 a3 a4 (z : Int) := D6.st H8.out (on : Int) a1 a2 a3 a4 (z : Int)
          have HZ9 : Below w.heap.size w ((((((wr9.setCell ⟨G, 0, none⟩ (.int .i64 (on : Int))).setCell ⟨G, 1, none⟩ (.int .i64 a1)).setCell ⟨G, 2, none⟩ (.int .i64 a2)).setCell ⟨G, 3, none⟩ (.int .i64 a3)).setCell ⟨G, 4, none⟩ (.int .i64 a4)).setCell ⟨G, 5, none⟩ (.int .i64 (z : Int))) := stD_below HZ.out (by omega) (on : Int) a1 a2 a3 a4 (z : Int)
          have CK9 : (((((((wr9.setCell ⟨G, 0, none⟩ (.int .i64 (on : Int))).setCell ⟨G, 1, none⟩ (.int .i64 a1)).setCell ⟨G, 2, none⟩ (.int .i64 a2)).setCell ⟨G, 3, none⟩ (.int .i64 a3)).setCell ⟨G, 4, none⟩ (.int .i64 a4)).setCell ⟨G, 5, none⟩ (.int .i64 (z : Int)))).cell? ⟨L, k1, none⟩ = some (.string x) := ((World.cell?_setCell_other _ _ _ _ (by intro e; injection e; omega)).trans ((World.cell?_setCell_other _ _ _ _ (by intro e; injection e; omega)).trans ((World.cell?_setCell_other _ _ _ _ (by intro e; injection e; omega)).trans ((World.cell?_setCell_other _ _ _ _ (by intro e; injection e; omega)).trans ((World.cell?_setCell_other _ _ _ _ (by intro e; injection e; omega)).trans ((World.cell?_setCell_other _ _ _ _ (by intro e; injection e; omega)).trans CK.out))))))
          clear HX HSL HB H8 HZ CK
          generalize ((((((wr9.setCell ⟨G, 0, none⟩ (.int .i64 (on : Int))).setCell ⟨G, 1, none⟩ (.int .i64 a1)).setCell ⟨G, 2, none⟩ (.int .i64 a2)).setCell ⟨G, 3, none⟩ (.int .i64 a3)).setCell ⟨G, 4, none⟩ (.int .i64 a4)).setCell ⟨G, 5, none⟩ (.int .i64 (z : Int))) = wr14 at *
          have HX := hid HX9
          have HSL := hid HSL9
          have HB := hid HB9
          have H8 := hid H89
          have HZ := hid HZ9
          have CK := hid CK9
          clear HX9 HSL9 HB9 H89 HZ9 CK9
          refine hK.out _ _ ?hS22 (fun hHeld => ?re22)
          case hS22 => exact ⟨HB.out.c0, HB.out.c1, HB.out.c2, HB.out.c3, HB.out.c4, HB.out.c5, CK.out⟩
          clear hK K
          (try simp only [Act.put, List.setIfInBounds_toArray, List.set_cons_zero, List.set_cons_succ])
          refine wpAnyH_take (i := 15) (oi := ?oi23) (v := ?v23) (fuel := 0) ?hi23 ?hs23 ?hf23 ?hr23 ?hq23 (Or.inl ⟨?hw23, ?hy23⟩) hHeld ?rest23
          case hi23 => rw [List.getElem?_toArray]; rfl
          case hq23 => exact fun _ _ _ h => h
          case hs23 | hf23 | hr23 => kernel_rfl
          case hw23 => rfl
          case hy23 => (intro w1 hSw; (try dsimp only at hSw); go_simp; try with_reducible rfl)
          (try simp only [Act.put, List.setIfInBounds_toArray, List.set_cons_zero, List.set_cons_succ])
          refine wpAnyH_done (by kernel_rfl) ?_ _
          clear hHeld hbk hw6
          cases q
          · obtain ⟨e0, e1, e2, e3, e4, e5, el, ef⟩ := H8.out
            obtain ⟨b0, b1, b2, b3, b4, b5, bl, bf⟩ := HB.out
            obtain ⟨r0, r1, r2, r3, r4, r5, rl, rf⟩ := HX.out
            go_wp2_with fail
            refine bodyPost_ret (v := .tuple #[.agg #[.int .i64 0, .int .i64 0, .int .i64 0, .int .i64 0, .int .i64 0, .int .i64 0], .bool false]) (by simp [results, Tryd.results9, go_sem, r0, r1, r2, r3, r4, r5]) rfl ⟨rfl, ?_⟩
            exact stD_below HZ.out (Nat.le_refl _) 0 0 0 0 0 0
          · obtain ⟨e0, e1, e2, e3, e4, e5, el, ef⟩ := H8.out
            obtain ⟨b0, b1, b2, b3, b4, b5, bl, bf⟩ := HB.out
            go_wp2_with fail
            go_roundw
            case rel => exact ⟨k + 1, a1, a2, a3, a4, by omega, by go_num, hid (stD_below HZ.out (by omega) (on : Int) a1 a2 a3 a4 (z : Int)), hid (D6.stO HX.out (by omega) (on : Int) a1 a2 a3 a4 (z : Int)), hid (SL.stO HSL.out (by omega) (on : Int) a1 a2 a3 a4 (z : Int)), hid (D6.st HB.out (on : Int) a1 a2 a3 a4 (z : Int))⟩
            case measure => simp [intOf]; omega
        exact AllReadyH.nil
      · obtain rfl : k = pb.size := by omega
        obtain ⟨b0, b1, b2, b3, b4, b5, bl, bf⟩ := HB.out
        go_wp2_with fail
        refine (putI_w _ _ _ _ _ _ _ (HT.out.t.below HZ.out)).mono ?_
        rintro e w5 ⟨⟨y, hy, hye, rfl⟩, b5'⟩
        replace HX := hid (HX.out.bel b5')
        replace HB := hid (HB.out.bel b5')
        replace HZ := hid (HZ.out.to b5')
        clear b0 b1 b2 b3 b4 b5 bl bf b5'
        have hys : ¬ y = S := by
          rw [hye.out]
          unfold linePutS
          split
          · rename_i hk; exact fun e => HNO.out _ _ _ _ _ _ hk e.symm
          · exact fun e => hse (by rw [← e]; rfl)
        have hyb : (y.toList == S.toList) = false := by
          cases hb : (y.toList == S.toList)
          · rfl
          · exact absurd ((str_eq _ _).1 hb) hys
        have hyl : ¬ y.toList = S.toList := fun e => by rw [e] at hyb; simp at hyb
        have hnn : (y.toList != S.toList) = true := by rw [bne, hyb]; rfl
        obtain ⟨b0, b1, b2, b3, b4, b5, bl, bf⟩ := HB.out
        obtain ⟨r0, r1, r2, r3, r4, r5, rl, rf⟩ := HX.out
        go_wp2_with fail
        refine bodyPost_ret (v := .tuple #[.agg #[.int .i64 0, .int .i64 0, .int .i64 0, .int .i64 0, .int .i64 0, .int .i64 0], .bool false]) (by simp [results, Tryd.results9, go_sem, r0, r1, r2, r3, r4, r5]) rfl ⟨rfl, ?_⟩
        exact stD_below HZ.out (Nat.le_refl _) 0 0 0 0 0 0
end Go.Proofs.YtbbecofgmodfiaaDoor
