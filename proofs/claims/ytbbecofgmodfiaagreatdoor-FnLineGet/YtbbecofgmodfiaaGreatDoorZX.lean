/- LineGet of both, exactly: of a line of an op that is ok, and of what is none. -/
import Derived.Test.YtbbecofgmodfiaaGreatDoorNJ
import Derived.Test.YtbbecofgmodfiaaGreatDoorZR
namespace Go.Proofs.YtbbecofgmodfiaaGreatDoor.G
section
open Go.RowKit
set_option linter.unusedVariables false
set_option linter.unusedSimpArgs false

theorem gd (o d s f i z : Int) (x : ByteArray) (hx : x.size ≤ 281474976710656) (v : Int) (h : regP x = (v, true)) (w : World) (hT : TabsG w) : Calls Tryz.prog 21 #[.agg #[.int .i64 o, .int .i64 d, .int .i64 s, .int .i64 f, .int .i64 i, .int .i64 z], .int .u8 100, .string x] w fun e w' => e = .returned (.tuple #[.agg #[.int .i64 o, .int .i64 v, .int .i64 s, .int .i64 f, .int .i64 i, .int .i64 z], .bool true]) ∧ Below w.heap.size w w' := by
  refine (gpart_d o d s f i z x hx w hT).mono ?_
  rintro e w' ⟨⟨a, q, ha, rfl⟩, hb⟩
  have h1 := ha.out
  rw [h] at h1
  obtain ⟨rfl, rfl⟩ := h1
  exact ⟨rfl, hb⟩
theorem go_ (o d s f i z : Int) (x : ByteArray) (hx : x.size ≤ 281474976710656) (v : Int) (h : atoiP x = (v, true)) (w : World) (hT : TabsG w) : Calls Tryz.prog 21 #[.agg #[.int .i64 o, .int .i64 d, .int .i64 s, .int .i64 f, .int .i64 i, .int .i64 z], .int .u8 111, .string x] w fun e w' => e = .returned (.tuple #[.agg #[.int .i64 o, .int .i64 d, .int .i64 s, .int .i64 v, .int .i64 i, .int .i64 z], .bool true]) ∧ Below w.heap.size w w' := by
  refine (gpart_o o d s f i z x hx w hT).mono ?_
  rintro e w' ⟨⟨a, q, ha, rfl⟩, hb⟩
  have h1 := ha.out
  rw [h] at h1
  obtain ⟨rfl, rfl⟩ := h1
  exact ⟨rfl, hb⟩
theorem gc (o d s f i z : Int) (x : ByteArray) (hx : x.size ≤ 281474976710656) (v : Int) (h : ∀ a q, CallIs x (a, q) → a = v ∧ q = true) (w : World) (hT : TabsG w) : Calls Tryz.prog 21 #[.agg #[.int .i64 o, .int .i64 d, .int .i64 s, .int .i64 f, .int .i64 i, .int .i64 z], .int .u8 99, .string x] w fun e w' => e = .returned (.tuple #[.agg #[.int .i64 o, .int .i64 d, .int .i64 s, .int .i64 f, .int .i64 v, .int .i64 z], .bool true]) ∧ Below w.heap.size w w' := by
  refine (gpart_c o d s f i z x hx w hT).mono ?_
  rintro e w' ⟨⟨a, q, ha, rfl⟩, hb⟩
  obtain ⟨rfl, rfl⟩ := h a q ha.out
  exact ⟨rfl, hb⟩
theorem gx1 (o d s f i z : Int) (x : ByteArray) (hx : x.size ≤ 281474976710656) (v : Int) (h : regP x = (v, true)) (w : World) (hT : TabsG w) : Calls Tryz.prog 21 #[.agg #[.int .i64 o, .int .i64 d, .int .i64 s, .int .i64 f, .int .i64 i, .int .i64 z], .int .u8 120, .string x] w fun e w' => e = .returned (.tuple #[.agg #[.int .i64 o, .int .i64 d, .int .i64 v, .int .i64 f, .int .i64 i, .int .i64 z], .bool true]) ∧ Below w.heap.size w w' := by
  refine (gpart_x o d s f i z x hx w hT).mono ?_
  rintro e w' ⟨⟨a, ha, rfl⟩ | ⟨b, q, hbq, rfl⟩, hb⟩
  · have h1 := ha.out
    rw [h] at h1
    obtain ⟨rfl, _⟩ := h1
    exact ⟨rfl, hb⟩
  · have h1 := hbq.out.1
    rw [h] at h1
    cases h1
theorem gx0 (o d s f i z : Int) (x : ByteArray) (hx : x.size ≤ 281474976710656) (v : Int) (h : regP x = (0, false)) (h2 : atoiP x = (v, true)) (w : World) (hT : TabsG w) : Calls Tryz.prog 21 #[.agg #[.int .i64 o, .int .i64 d, .int .i64 s, .int .i64 f, .int .i64 i, .int .i64 z], .int .u8 120, .string x] w fun e w' => e = .returned (.tuple #[.agg #[.int .i64 o, .int .i64 d, .int .i64 (-1), .int .i64 f, .int .i64 v, .int .i64 z], .bool true]) ∧ Below w.heap.size w w' := by
  refine (gpart_x o d s f i z x hx w hT).mono ?_
  rintro e w' ⟨⟨a, ha, rfl⟩ | ⟨b, q, hbq, rfl⟩, hb⟩
  · have h1 := ha.out.2
    rw [h] at h1
    cases h1
  · obtain ⟨_, h3, h4⟩ := hbq.out
    rw [h2] at h3 h4
    subst h3
    subst h4
    exact ⟨rfl, hb⟩
set_option maxRecDepth 100000 in
set_option maxHeartbeats 4000000 in
theorem getA (on z : Nat) (d s f i : Int) (ps : List UInt8) (S : ByteArray) (w : World) (hT : TabsG w) (hon1 : 1 ≤ on) (hon2 : on ≤ 20) (hz : z ≤ 4) (hfit : sizeFitsB (on : Int) (z : Int) = true) (hd0 : 0 ≤ d) (hd1 : d ≤ 10) (hs0 : -1 ≤ s) (hs1 : s ≤ 10) (hf0 : -128 ≤ f) (hf1 : f ≤ 127) (hi0 : 0 ≤ i) (hi1 : i ≤ 4294967295)
    (hpl : ps.length ≤ 3) (hall : ∀ p ∈ ps, p = 100 ∨ p = 120 ∨ p = 111 ∨ p = 99) (hps : partsS (on : Int) = ⟨ps.toArray⟩) (hS : S = joinW (firstS on z :: ps.map (wordP d s f i))) (hsz : S.size ≤ 1000) (h99 : (99 : UInt8) ∈ ps → 1 ≤ i ∧ i ≤ 6) (hxs : 0 ≤ s → i = 0)
    (hput : linePutS (on : Int) d s f i (z : Int) = S) (g1 : (100 : UInt8) ∉ ps → d = 0) (g2 : (120 : UInt8) ∉ ps → s = -1) (g3 : (111 : UInt8) ∉ ps → f = 0) (g4 : (120 : UInt8) ∉ ps → (99 : UInt8) ∉ ps → i = 0) :
    Calls Tryz.prog 8 #[.string S] w fun e w' => e = .returned (.tuple #[.agg #[.int .i64 (on : Int), .int .i64 d, .int .i64 s, .int .i64 f, .int .i64 i, .int .i64 (z : Int)], .bool true]) ∧ Below w.heap.size w w' := by
  have HT := hid hT
  have HX0 := hid (D6.new w 0 0 0 0 0 0 24)
  have HZ0 := hid (belA w (.cells #[.int .i64 0, .int .i64 0, .int .i64 0, .int .i64 0, .int .i64 0, .int .i64 0] 24))
  obtain ⟨W, hW⟩ : ∃ W, W = firstS on z :: ps.map (wordP d s f i) := ⟨_, rfl⟩
  have hWl : W.length = ps.length + 1 := by rw [hW]; simp
  have hno : ∀ x ∈ W, No32 x := by
    rw [hW]
    intro x hx
    rcases List.mem_cons.1 hx with rfl | hx
    · exact firstS_no _ _
    · obtain ⟨p, _, rfl⟩ := List.mem_map.1 hx
      exact wordP_no _ _ _ _ _
  rw [← hW] at hS
  have HSP := hid (fun w' => splitW W S w' (by intro h; rw [h] at hWl; simp at hWl) hno hS (by omega))
  have hW0 : W.getD 0 ⟨#[]⟩ = firstS on z := by rw [hW]; rfl
  have hWk : ∀ k (h : k < ps.length), W.getD (k + 1) ⟨#[]⟩ = wordP d s f i ps[k] := fun k h => by rw [hW]; simp [List.getD, h]
  have HW0 := hid hW0
  have HWK := hid hWk
  have HPS := hid hps
  have HAL := hid hall
  have HP := hid hput
  have H99 := hid h99
  have HXS := hid hxs
  have HG := hid (And.intro g1 (And.intro g2 (And.intro g3 g4)))
  obtain ⟨m, hm⟩ : ∃ m, m = W.length := ⟨_, rfl⟩
  have hml : m = ps.length + 1 := by omega
  rw [← hm] at HSP
  have HM := hid hm
  have HML := hid hml
  have HON := hid (And.intro hon1 (And.intro hon2 (And.intro hz hfit)))
  clear hT hW hno hS hW0 hWk hps hall hput h99 hxs g1 g2 g3 g4 hm hWl hfit hml
  go_enter Tryz.func8, Tryz.ntmps8
  go_wp2_with fail
  refine (HSP.out _).mono ?_
  rintro e w1 ⟨rfl, hw⟩
  have hsl := SL.new (w.alloc (.cells #[.int .i64 0, .int .i64 0, .int .i64 0, .int .i64 0, .int .i64 0, .int .i64 0] 24)) W 9
  have b1 := belA (w.alloc (.cells #[.int .i64 0, .int .i64 0, .int .i64 0, .int .i64 0, .int .i64 0, .int .i64 0] 24)) (.cells (W.map Value.string).toArray 9)
  rw [← hw] at b1 hsl
  have HX := hid (HX0.out.bel b1)
  have HZ := hid (HZ0.out.to b1)
  have hL : w.heap.size < (w.alloc (.cells #[.int .i64 0, .int .i64 0, .int .i64 0, .int .i64 0, .int .i64 0, .int .i64 0] 24)).heap.size := by simp
  have hL2 := hsl.1
  have HSL := hid hsl
  clear hw b1 hsl HX0 HZ0 HSP
  generalize (w.alloc (.cells #[.int .i64 0, .int .i64 0, .int .i64 0, .int .i64 0, .int .i64 0, .int .i64 0] 24)).heap.size = L at *
  have c0 := HSL.out.2 0 (by rw [← HM.out, HML.out]; omega)
  rw [HW0.out] at c0
  obtain ⟨x0, hx0⟩ : ∃ x, x = firstS on z := ⟨_, rfl⟩
  rw [← hx0] at c0
  have HXE := hid hx0
  clear hx0
  have hm1 : (1 : Int) ≤ (m : Int) := by have := HML.out; omega
  go_wp2_with fail
  refine (firstG_w x0 _ (HT.out.t.below HZ.out)).mono ?_
  rintro e w2 ⟨⟨y, hy, rfl⟩, b2⟩
  have hye : y = .agg #[.int .i64 (on : Int), .int .i64 0, .int .i64 (-1), .int .i64 0, .int .i64 0, .int .i64 (z : Int)] := first_is HON.out.1 HON.out.2.1 HON.out.2.2.1 HON.out.2.2.2 (by rw [← HXE.out]; exact hy.out)
  subst hye
  replace HX := hid (HX.out.bel b2)
  replace HSL := hid (HSL.out.below b2)
  replace HZ := hid (HZ.out.to b2)
  have hL3 : L < w2.heap.size := Nat.lt_of_lt_of_le hL2 b2.size
  clear b2 hy c0
  have HB5 := hid (D6.new w2 (on : Int) 0 (-1) 0 0 (z : Int) 24)
  have b3 := belA w2 (.cells #[.int .i64 (on : Int), .int .i64 0, .int .i64 (-1), .int .i64 0, .int .i64 0, .int .i64 (z : Int)] 24)
  have HX3 := hid (HX.out.bel b3)
  have HSL3 := hid (HSL.out.below b3)
  have HZ3 := hid (HZ.out.to b3)
  clear b3 HX HSL HZ
  go_wp2_with fail
  generalize w2.alloc (.cells #[.int .i64 (on : Int), .int .i64 0, .int .i64 (-1), .int .i64 0, .int .i64 0, .int .i64 (z : Int)] 24) = w3 at *
  obtain ⟨B, hB⟩ : ∃ B, B = w2.heap.size := ⟨_, rfl⟩
  rw [← hB] at hL3 HB5 ⊢
  have HBE := hid hB
  have hwB : w.heap.size < B := by omega
  clear hB hL2
  refine (parts_w _ _).mono ?_
  rintro e w' ⟨rfl, hw⟩
  rw [hw, HPS.out]
  clear hw w'
  obtain ⟨pb, hpb⟩ : ∃ pb : ByteArray, pb = ⟨ps.toArray⟩ := ⟨_, rfl⟩
  have hpbs : pb.size = ps.length := by rw [hpb]; simp [ByteArray.size]
  rw [← hpb]
  have HPB := hid hpb
  have HPBS := hid hpbs
  clear hpb hpbs
  obtain ⟨c0, c1, c2, c3, c4, c5, cl, cf⟩ := HB5.out
  have hne : ((on : Int) == 0) = false := by simp; omega
  have hp3 : (pb.size : Int) ≤ 3 := by have := HPBS.out; omega
  have hlm : ((m : Int) != (pb.size : Int) + 1) = false := by have := HML.out; have := HPBS.out; simp; omega
  go_wp2_with fail
  clear c0 c1 c2 c3 c4 c5 cl cf hne hlm
  clear hm1
  go_loopw [7] (fun i_ wr => ∃ (k : Nat) (d' s' f' i' : Int), k ≤ ps.length ∧ i_ = .int .i64 k ∧ Hid (Below w.heap.size w wr) ∧ Hid (D6 wr w.heap.size 0 0 0 0 0 0) ∧ Hid (SL wr L W) ∧ Hid (D6 wr B (on : Int) d' s' f' i' (z : Int)) ∧ Hid (Cand ps d s f i k d' s' f' i')) (fun i_ _ => ps.length - (intOf i_).toNat)
  case atStart => exact ⟨0, 0, -1, 0, 0, Nat.zero_le _, rfl, HZ3, HX3, HSL3, HB5, hid (by simp [Cand])⟩
  case round =>
    clear HZ3 HX3 HSL3 HB5
    obtain ⟨k, d', s', f', i', hk, rfl, HZ, HX, HSL, HB, HC⟩ := hrel
    by_cases hlt : k < ps.length
    · have hk0 : (0 : Int) ≤ (k : Int) := by omega
      have hml := HML.out
      have hpbs := HPBS.out
      have hlt' : (k : Int) < (pb.size : Int) := by omega
      obtain ⟨k1, hk1⟩ : ∃ k1, k1 = k + 1 := ⟨_, rfl⟩
      have hk1a : (0 : Int) ≤ (k1 : Int) := by omega
      have hk1b : (k1 : Int) < (m : Int) := by omega
      have hw6 : IntKind.i64.wrap ((k : Int) + 1) = (k1 : Int) := by rw [IntKind.wrap_i64]; omega
      have ck := HSL.out.2 k1 (by rw [← HM.out]; omega)
      rw [hk1, HWK.out k hlt, ← hk1] at ck
      have HK1 := hid hk1
      clear hk1 hml hpbs
      have hxz := wordP_size (d := d) (s := s) (f := f) (i := i) ps[k] hd0 hd1 hs0 hs1 hf0 hf1 hi0 hi1
      have hpa := HAL.out ps[k] (List.getElem_mem _)
      obtain ⟨x, hx⟩ : ∃ x, x = wordP d s f i ps[k] := ⟨_, rfl⟩
      rw [← hx] at ck hxz
      have HXE := hid hx
      clear hx
      obtain ⟨b0, b1, b2, b3, b4, b5, bl, bf⟩ := HB.out
      have hbyte : (pb[k]'(by have := HPBS.out; omega)).toNat = ps[k].toNat := by simp only [HPB.out]; rfl
      rcases hpa with hp | hp | hp | hp
      · have hxw : x = ⟨#[114]⟩ ++ decI d := by rw [HXE.out, hp]; rfl
        have HRG : Hid (regP x = (d, true)) := hid (by rw [hxw]; exact reg_dec d (by omega) (by omega))
        clear hxw
        have HCN := hid (cand_d hlt HC.out hp)
        have CK := hid ck
        have hltp : k < pb.size := by have := HPBS.out; omega
        have hbk : (pb[k]'hltp).toNat = 100 := by have := hbyte; simpa [hp] using this
        go_wp2_with fail
        refine wp_region_held_drew (S := (fun w' => w'.cell? ⟨B, 0, none⟩ = some (.int .i64 (on : Int)) ∧ w'.cell? ⟨B, 1, none⟩ = some (.int .i64 d') ∧ w'.cell? ⟨B, 2, none⟩ = some (.int .i64 s') ∧ w'.cell? ⟨B, 3, none⟩ = some (.int .i64 f') ∧ w'.cell? ⟨B, 4, none⟩ = some (.int .i64 i') ∧ w'.cell? ⟨B, 5, none⟩ = some (.int .i64 (z : Int)) ∧ w'.cell? ⟨L, k1, none⟩ = some (.string x))) (by kernel_rfl) (by exact ⟨HB.out.c0, HB.out.c1, HB.out.c2, HB.out.c3, HB.out.c4, HB.out.c5, ck⟩) (fun hHeld => ?_)
        have bd : Below wr.heap.size wr wr.drew := (Below.refl _ _).drew
        clear ck
        replace HX := hid (HX.out.bel bd)
        replace CK := hid ((bd.cell (p := ⟨L, k1, none⟩) HSL.out.1).trans CK.out)
        replace HSL := hid (HSL.out.below bd)
        replace HB := hid (HB.out.bel bd)
        replace HZ := hid (HZ.out.to bd)
        clear bd
        generalize wr.drew = W1 at *
        refine wpAnyH_take (i := 0) (oi := ?oi1) (v := ?v1) (fuel := 15) ?hi1 ?hs1 ?hf1 ?hr1 ?hq1 (Or.inl ⟨?hw1, ?hy1⟩) hHeld ?rest1
        case hi1 => rw [List.getElem?_toArray]; rfl
        case hq1 => exact fun _ _ _ h => h
        case hs1 | hf1 | hr1 => kernel_rfl
        case hw1 => rfl
        case hy1 => (intro w1 hSw; (try dsimp only at hSw); go_simp; try with_reducible rfl)
        (try simp only [Act.put, List.setIfInBounds_toArray, List.set_cons_zero, List.set_cons_succ])
        refine wpAnyH_take (i := 1) (oi := ?oi2) (v := ?v2) (fuel := 14) ?hi2 ?hs2 ?hf2 ?hr2 ?hq2 (Or.inl ⟨?hw2, ?hy2⟩) hHeld ?rest2
        case hi2 => rw [List.getElem?_toArray]; rfl
        case hq2 => exact fun _ _ _ h => h
        case hs2 | hf2 | hr2 => kernel_rfl
        case hw2 => rfl
        case hy2 => (intro w1 hSw; (try dsimp only at hSw); go_simp; try with_reducible rfl)
        (try simp only [Act.put, List.setIfInBounds_toArray, List.set_cons_zero, List.set_cons_succ])
        refine wpAnyH_take (i := 2) (oi := ?oi3) (v := ?v3) (fuel := 13) ?hi3 ?hs3 ?hf3 ?hr3 ?hq3 (Or.inl ⟨?hw3, ?hy3⟩) hHeld ?rest3
        case hi3 => rw [List.getElem?_toArray]; rfl
        case hq3 => exact fun _ _ _ h => h
        case hs3 | hf3 | hr3 => kernel_rfl
        case hw3 => rfl
        case hy3 => (intro w1 hSw; (try dsimp only at hSw); go_simp; try with_reducible rfl)
        (try simp only [Act.put, List.setIfInBounds_toArray, List.set_cons_zero, List.set_cons_succ])
        refine wpAnyH_take (i := 3) (oi := ?oi4) (v := .int .u8 100) (fuel := 12) ?hi4 ?hs4 ?hf4 ?hr4 ?hq4 (Or.inl ⟨?hw4, ?hy4⟩) hHeld ?rest4
        case hi4 => rw [List.getElem?_toArray]; rfl
        case hq4 => exact fun _ _ _ h => h
        case hs4 | hf4 | hr4 => kernel_rfl
        case hw4 => rfl
        case hy4 => (intro w1 hSw; (try dsimp only at hSw); go_simp; try (first | rfl | simp [hbk]))
        (try simp only [Act.put, List.setIfInBounds_toArray, List.set_cons_zero, List.set_cons_succ])
        refine wpAnyH_take (i := 4) (oi := ?oi5) (v := ?v5) (fuel := 11) ?hi5 ?hs5 ?hf5 ?hr5 ?hq5 (Or.inl ⟨?hw5, ?hy5⟩) hHeld ?rest5
        case hi5 => rw [List.getElem?_toArray]; rfl
        case hq5 => exact fun _ _ _ h => h
        case hs5 | hf5 | hr5 => kernel_rfl
        case hw5 => rfl
        case hy5 => (intro w1 hSw; (try dsimp only at hSw); go_simp; try with_reducible rfl)
        (try simp only [Act.put, List.setIfInBounds_toArray, List.set_cons_zero, List.set_cons_succ])
        refine wpAnyH_take (i := 5) (oi := ?oi6) (v := ?v6) (fuel := 10) ?hi6 ?hs6 ?hf6 ?hr6 ?hq6 (Or.inl ⟨?hw6, ?hy6⟩) hHeld ?rest6
        case hi6 => rw [List.getElem?_toArray]; rfl
        case hq6 => exact fun _ _ _ h => h
        case hs6 | hf6 | hr6 => kernel_rfl
        case hw6 => rfl
        case hy6 => (intro w1 hSw; (try dsimp only at hSw); go_simp; try with_reducible rfl)
        (try simp only [Act.put, List.setIfInBounds_toArray, List.set_cons_zero, List.set_cons_succ])
        refine wpAnyH_take (i := 6) (oi := ?oi7) (v := .int .i64 (k1 : Int)) (fuel := 9) ?hi7 ?hs7 ?hf7 ?hr7 ?hq7 (Or.inl ⟨?hw7, ?hy7⟩) hHeld ?rest7
        case hi7 => rw [List.getElem?_toArray]; rfl
        case hq7 => exact fun _ _ _ h => h
        case hs7 | hf7 | hr7 => kernel_rfl
        case hw7 => rfl
        case hy7 => (intro w1 hSw; (try dsimp only at hSw); go_simp; try simp [hw6])
        (try simp only [Act.put, List.setIfInBounds_toArray, List.set_cons_zero, List.set_cons_succ])
        refine wpAnyH_take (i := 7) (oi := ?oi8) (v := ?v8) (fuel := 8) ?hi8 ?hs8 ?hf8 ?hr8 ?hq8 (Or.inl ⟨?hw8, ?hy8⟩) hHeld ?rest8
        case hi8 => rw [List.getElem?_toArray]; rfl
        case hq8 => exact fun _ _ _ h => h
        case hs8 | hf8 | hr8 => kernel_rfl
        case hw8 => rfl
        case hy8 => (intro w1 hSw; (try dsimp only at hSw); go_simp; try with_reducible rfl)
        (try simp only [Act.put, List.setIfInBounds_toArray, List.set_cons_zero, List.set_cons_succ])
        refine wpAnyH_take (i := 8) (oi := ?oi9) (v := ?v9) (fuel := 7) ?hi9 ?hs9 ?hf9 ?hr9 ?hq9 (Or.inl ⟨?hw9, ?hy9⟩) hHeld ?rest9
        case hi9 => rw [List.getElem?_toArray]; rfl
        case hq9 => exact fun _ _ _ h => h
        case hs9 | hf9 | hr9 => kernel_rfl
        case hw9 => rfl
        case hy9 => (intro w1 hSw; (try dsimp only at hSw); go_simp; try with_reducible rfl)
        (try simp only [Act.put, List.setIfInBounds_toArray, List.set_cons_zero, List.set_cons_succ])
        refine wpAnyH_ready (fuel := 6) (rs := [9, 13]) (by kernel_rfl) (by simp) ?_
        refine AllReadyH.cons (o := ?oi10) ?hi10 (fun K hK => ?st10) ?mo10
        case hi10 => rw [List.getElem?_toArray]; rfl
        case st10 =>
          go_simp
          refine (gd _ _ _ _ _ _ x (by omega) d HRG.out _ (HT.out.below HZ.out)).mono ?_
          rintro ee wr9 ⟨rfl, bq⟩
          replace HX := hid (HX.out.bel bq)
          replace CK := hid ((bq.cell (p := ⟨L, k1, none⟩) HSL.out.1).trans CK.out)
          replace HSL := hid (HSL.out.below bq)
          replace HB := hid (HB.out.bel bq)
          replace HZ := hid (HZ.out.to bq)
          clear bq
          go_wp2_with fail
          refine hK.out _ _ ?hS10 (fun hHeld => ?re10)
          case hS10 => exact ⟨HB.out.c0, HB.out.c1, HB.out.c2, HB.out.c3, HB.out.c4, HB.out.c5, CK.out⟩
          clear hK K
          (try simp only [Act.put, List.setIfInBounds_toArray, List.set_cons_zero, List.set_cons_succ])
          refine wpAnyH_take (i := 10) (oi := ?oi11) (v := ?v11) (fuel := 5) ?hi11 ?hs11 ?hf11 ?hr11 ?hq11 (Or.inl ⟨?hw11, ?hy11⟩) hHeld ?rest11
          case hi11 => rw [List.getElem?_toArray]; rfl
          case hq11 => exact fun _ _ _ h => h
          case hs11 | hf11 | hr11 => kernel_rfl
          case hw11 => rfl
          case hy11 => (intro w1 hSw; (try dsimp only at hSw); go_simp; try with_reducible rfl)
          (try simp only [Act.put, List.setIfInBounds_toArray, List.set_cons_zero, List.set_cons_succ])
          refine wpAnyH_take (i := 11) (oi := ?oi12) (v := ?v12) (fuel := 4) ?hi12 ?hs12 ?hf12 ?hr12 ?hq12 (Or.inl ⟨?hw12, ?hy12⟩) hHeld ?rest12
          case hi12 => rw [List.getElem?_toArray]; rfl
          case hq12 => exact fun _ _ _ h => h
          case hs12 | hf12 | hr12 => kernel_rfl
          case hw12 => rfl
          case hy12 => (intro w1 hSw; (try dsimp only at hSw); go_simp; try with_reducible rfl)
          (try simp only [Act.put, List.setIfInBounds_toArray, List.set_cons_zero, List.set_cons_succ])
          refine wpAnyH_take (i := 12) (oi := ?oi13) (v := ?v13) (fuel := 3) ?hi13 ?hs13 ?hf13 ?hr13 ?hq13 (Or.inl ⟨?hw13, ?hy13⟩) hHeld ?rest13
          case hi13 => rw [List.getElem?_toArray]; rfl
          case hq13 => exact fun _ _ _ h => h
          case hs13 | hf13 | hr13 => kernel_rfl
          case hw13 => rfl
          case hy13 => (intro w1 hSw; (try dsimp only at hSw); go_simp; try with_reducible rfl)
          (try simp only [Act.put, List.setIfInBounds_toArray, List.set_cons_zero, List.set_cons_succ])
          refine wpAnyH_ready (fuel := 2) (rs := [13]) (by kernel_rfl) (by simp) ?_
          refine AllReadyH.cons (o := ?oi14) ?hi14 (fun K hK => ?st14) AllReadyH.nil
          case hi14 => rw [List.getElem?_toArray]; rfl
          go_simp
          have H8 := hid (D6.new wr9 0 0 0 0 0 0 24)
          have bA := belA wr9 (.cells #[.int .i64 0, .int .i64 0, .int .i64 0, .int .i64 0, .int .i64 0, .int .i64 0] 24)
          have lG1 := HX.out.lt
          have lG2 := HB.out.lt
          have lG3 := HSL.out.1
          replace HX := hid (HX.out.bel bA)
          replace CK := hid ((bA.cell (p := ⟨L, k1, none⟩) HSL.out.1).trans CK.out)
          replace HSL := hid (HSL.out.below bA)
          replace HB := hid (HB.out.bel bA)
          replace HZ := hid (HZ.out.to bA)
          clear bA
          generalize wr9.alloc (.cells #[.int .i64 0, .int .i64 0, .int .i64 0, .int .i64 0, .int .i64 0, .int .i64 0] 24) = wr13 at *
          generalize wr9.heap.size = G at *
          refine hK.out _ _ ?hS14 (fun hHeld => ?re14)
          case hS14 => exact ⟨HB.out.c0, HB.out.c1, HB.out.c2, HB.out.c3, HB.out.c4, HB.out.c5, CK.out⟩
          clear hK K
          (try simp only [Act.put, List.setIfInBounds_toArray, List.set_cons_zero, List.set_cons_succ])
          refine wpAnyH_ready (fuel := 1) (rs := [14]) (by kernel_rfl) (by simp) ?_
          refine AllReadyH.cons (o := ?oi15) ?hi15 (fun K hK => ?st15) AllReadyH.nil
          case hi15 => rw [List.getElem?_toArray]; rfl
          obtain ⟨e0, e1, e2, e3, e4, e5, el, ef⟩ := H8.out
          go_simp
          clear e0 e1 e2 e3 e4 e5 el ef
          have HX9 : D6 ((((((wr13.setCell ⟨G, 0, none⟩ (.int .i64 (on : Int))).setCell ⟨G, 1, none⟩ (.int .i64 d)).setCell ⟨G, 2, none⟩ (.int .i64 s')).setCell ⟨G, 3, none⟩ (.int .i64 f')).setCell ⟨G, 4, none⟩ (.int .i64 i')).setCell ⟨G, 5, none⟩ (.int .i64 (z : Int))) w.heap.size 0 0 0 0 0 0 := D6.stO HX.out (by omega) (on : Int) d s' f' i' (z : Int)
          have HSL9 : SL ((((((wr13.setCell ⟨G, 0, none⟩ (.int .i64 (on : Int))).setCell ⟨G, 1, none⟩ (.int .i64 d)).setCell ⟨G, 2, none⟩ (.int .i64 s')).setCell ⟨G, 3, none⟩ (.int .i64 f')).setCell ⟨G, 4, none⟩ (.int .i64 i')).setCell ⟨G, 5, none⟩ (.int .i64 (z : Int))) L W := SL.stO HSL.out (by omega) (on : Int) d s' f' i' (z : Int)
          have HB9 : D6 ((((((wr13.setCell ⟨G, 0, none⟩ (.int .i64 (on : Int))).setCell ⟨G, 1, none⟩ (.int .i64 d)).setCell ⟨G, 2, none⟩ (.int .i64 s')).setCell ⟨G, 3, none⟩ (.int .i64 f')).setCell ⟨G, 4, none⟩ (.int .i64 i')).setCell ⟨G, 5, none⟩ (.int .i64 (z : Int))) B (on : Int) d' s' f' i' (z : Int) := D6.stO HB.out (by omega) (on : Int) d s' f' i' (z : Int)
          have H89 : D6 ((((((wr13.setCell ⟨G, 0, none⟩ (.int .i64 (on : Int))).setCell ⟨G, 1, none⟩ (.int .i64 d)).setCell ⟨G, 2, none⟩ (.int .i64 s')).setCell ⟨G, 3, none⟩ (.int .i64 f')).setCell ⟨G, 4, none⟩ (.int .i64 i')).setCell ⟨G, 5, none⟩ (.int .i64 (z : Int))) G (on : Int) d s' f' i' (z : Int) := D6.st H8.out (on : Int) d s' f' i' (z : Int)
          have HZ9 : Below w.heap.size w ((((((wr13.setCell ⟨G, 0, none⟩ (.int .i64 (on : Int))).setCell ⟨G, 1, none⟩ (.int .i64 d)).setCell ⟨G, 2, none⟩ (.int .i64 s')).setCell ⟨G, 3, none⟩ (.int .i64 f')).setCell ⟨G, 4, none⟩ (.int .i64 i')).setCell ⟨G, 5, none⟩ (.int .i64 (z : Int))) := stD_below HZ.out (by omega) (on : Int) d s' f' i' (z : Int)
          have CK9 : (((((((wr13.setCell ⟨G, 0, none⟩ (.int .i64 (on : Int))).setCell ⟨G, 1, none⟩ (.int .i64 d)).setCell ⟨G, 2, none⟩ (.int .i64 s')).setCell ⟨G, 3, none⟩ (.int .i64 f')).setCell ⟨G, 4, none⟩ (.int .i64 i')).setCell ⟨G, 5, none⟩ (.int .i64 (z : Int)))).cell? ⟨L, k1, none⟩ = some (.string x) := (World.cell?_setCell_other _ _ _ _ (by intro e; injection e; omega)).trans ((World.cell?_setCell_other _ _ _ _ (by intro e; injection e; omega)).trans ((World.cell?_setCell_other _ _ _ _ (by intro e; injection e; omega)).trans ((World.cell?_setCell_other _ _ _ _ (by intro e; injection e; omega)).trans ((World.cell?_setCell_other _ _ _ _ (by intro e; injection e; omega)).trans ((World.cell?_setCell_other _ _ _ _ (by intro e; injection e; omega)).trans CK.out)))))
          clear HX HSL HB H8 HZ CK
          generalize ((((((wr13.setCell ⟨G, 0, none⟩ (.int .i64 (on : Int))).setCell ⟨G, 1, none⟩ (.int .i64 d)).setCell ⟨G, 2, none⟩ (.int .i64 s')).setCell ⟨G, 3, none⟩ (.int .i64 f')).setCell ⟨G, 4, none⟩ (.int .i64 i')).setCell ⟨G, 5, none⟩ (.int .i64 (z : Int))) = wr14 at *
          have HX := hid HX9
          have HSL := hid HSL9
          have HB := hid HB9
          have H8 := hid H89
          have HZ := hid HZ9
          have CK := hid CK9
          clear HX9 HSL9 HB9 H89 HZ9 CK9
          refine hK.out _ _ ?hS15 (fun hHeld => ?re15)
          case hS15 => exact ⟨HB.out.c0, HB.out.c1, HB.out.c2, HB.out.c3, HB.out.c4, HB.out.c5, CK.out⟩
          clear hK K
          (try simp only [Act.put, List.setIfInBounds_toArray, List.set_cons_zero, List.set_cons_succ])
          refine wpAnyH_take (i := 15) (oi := ?oi16) (v := ?v16) (fuel := 0) ?hi16 ?hs16 ?hf16 ?hr16 ?hq16 (Or.inl ⟨?hw16, ?hy16⟩) hHeld ?rest16
          case hi16 => rw [List.getElem?_toArray]; rfl
          case hq16 => exact fun _ _ _ h => h
          case hs16 | hf16 | hr16 => kernel_rfl
          case hw16 => rfl
          case hy16 => (intro w1 hSw; (try dsimp only at hSw); go_simp; try with_reducible rfl)
          (try simp only [Act.put, List.setIfInBounds_toArray, List.set_cons_zero, List.set_cons_succ])
          refine wpAnyH_done (by kernel_rfl) ?_ _
          clear hHeld hbk hw6
          obtain ⟨e0, e1, e2, e3, e4, e5, el, ef⟩ := H8.out
          obtain ⟨b0, b1, b2, b3, b4, b5, bl, bf⟩ := HB.out
          go_wp2_with fail
          go_roundw
          case rel => exact ⟨k + 1, d, s', f', i', by omega, by go_num, hid (stD_below HZ.out (by omega) (on : Int) d s' f' i' (z : Int)), hid (D6.stO HX.out (by omega) (on : Int) d s' f' i' (z : Int)), hid (SL.stO HSL.out (by omega) (on : Int) d s' f' i' (z : Int)), hid (D6.st HB.out (on : Int) d s' f' i' (z : Int)), hid HCN.out⟩
          case measure => simp [intOf]; omega
        refine AllReadyH.cons (o := ?oi17) ?hi17 (fun K hK => ?st17) ?mo17
        case hi17 => rw [List.getElem?_toArray]; rfl
        case st17 =>
          go_simp
          have H8 := hid (D6.new W1 0 0 0 0 0 0 24)
          have bA := belA W1 (.cells #[.int .i64 0, .int .i64 0, .int .i64 0, .int .i64 0, .int .i64 0, .int .i64 0] 24)
          have lG1 := HX.out.lt
          have lG2 := HB.out.lt
          have lG3 := HSL.out.1
          replace HX := hid (HX.out.bel bA)
          replace CK := hid ((bA.cell (p := ⟨L, k1, none⟩) HSL.out.1).trans CK.out)
          replace HSL := hid (HSL.out.below bA)
          replace HB := hid (HB.out.bel bA)
          replace HZ := hid (HZ.out.to bA)
          clear bA
          generalize W1.alloc (.cells #[.int .i64 0, .int .i64 0, .int .i64 0, .int .i64 0, .int .i64 0, .int .i64 0] 24) = wr13 at *
          generalize W1.heap.size = G at *
          refine hK.out _ _ ?hS17 (fun hHeld => ?re17)
          case hS17 => exact ⟨HB.out.c0, HB.out.c1, HB.out.c2, HB.out.c3, HB.out.c4, HB.out.c5, CK.out⟩
          clear hK K
          (try simp only [Act.put, List.setIfInBounds_toArray, List.set_cons_zero, List.set_cons_succ])
          refine wpAnyH_ready (fuel := 5) (rs := [9]) (by kernel_rfl) (by simp) ?_
          refine AllReadyH.cons (o := ?oi18) ?hi18 (fun K hK => ?st18) AllReadyH.nil
          case hi18 => rw [List.getElem?_toArray]; rfl
          go_simp
          refine (gd _ _ _ _ _ _ x (by omega) d HRG.out _ (HT.out.below HZ.out)).mono ?_
          rintro ee wr9 ⟨rfl, bq⟩
          replace HX := hid (HX.out.bel bq)
          replace CK := hid ((bq.cell (p := ⟨L, k1, none⟩) HSL.out.1).trans CK.out)
          replace HSL := hid (HSL.out.below bq)
          replace HB := hid (HB.out.bel bq)
          replace H8 := hid (H8.out.bel bq)
          replace HZ := hid (HZ.out.to bq)
          clear bq
          go_wp2_with fail
          refine hK.out _ _ ?hS18 (fun hHeld => ?re18)
          case hS18 => exact ⟨HB.out.c0, HB.out.c1, HB.out.c2, HB.out.c3, HB.out.c4, HB.out.c5, CK.out⟩
          clear hK K
          (try simp only [Act.put, List.setIfInBounds_toArray, List.set_cons_zero, List.set_cons_succ])
          refine wpAnyH_take (i := 10) (oi := ?oi19) (v := ?v19) (fuel := 4) ?hi19 ?hs19 ?hf19 ?hr19 ?hq19 (Or.inl ⟨?hw19, ?hy19⟩) hHeld ?rest19
          case hi19 => rw [List.getElem?_toArray]; rfl
          case hq19 => exact fun _ _ _ h => h
          case hs19 | hf19 | hr19 => kernel_rfl
          case hw19 => rfl
          case hy19 => (intro w1 hSw; (try dsimp only at hSw); go_simp; try with_reducible rfl)
          (try simp only [Act.put, List.setIfInBounds_toArray, List.set_cons_zero, List.set_cons_succ])
          refine wpAnyH_take (i := 11) (oi := ?oi20) (v := ?v20) (fuel := 3) ?hi20 ?hs20 ?hf20 ?hr20 ?hq20 (Or.inl ⟨?hw20, ?hy20⟩) hHeld ?rest20
          case hi20 => rw [List.getElem?_toArray]; rfl
          case hq20 => exact fun _ _ _ h => h
          case hs20 | hf20 | hr20 => kernel_rfl
          case hw20 => rfl
          case hy20 => (intro w1 hSw; (try dsimp only at hSw); go_simp; try with_reducible rfl)
          (try simp only [Act.put, List.setIfInBounds_toArray, List.set_cons_zero, List.set_cons_succ])
          refine wpAnyH_take (i := 12) (oi := ?oi21) (v := ?v21) (fuel := 2) ?hi21 ?hs21 ?hf21 ?hr21 ?hq21 (Or.inl ⟨?hw21, ?hy21⟩) hHeld ?rest21
          case hi21 => rw [List.getElem?_toArray]; rfl
          case hq21 => exact fun _ _ _ h => h
          case hs21 | hf21 | hr21 => kernel_rfl
          case hw21 => rfl
          case hy21 => (intro w1 hSw; (try dsimp only at hSw); go_simp; try with_reducible rfl)
          (try simp only [Act.put, List.setIfInBounds_toArray, List.set_cons_zero, List.set_cons_succ])
          refine wpAnyH_ready (fuel := 1) (rs := [14]) (by kernel_rfl) (by simp) ?_
          refine AllReadyH.cons (o := ?oi22) ?hi22 (fun K hK => ?st22) AllReadyH.nil
          case hi22 => rw [List.getElem?_toArray]; rfl
          obtain ⟨e0, e1, e2, e3, e4, e5, el, ef⟩ := H8.out
          go_simp
          clear e0 e1 e2 e3 e4 e5 el ef
          have HX9 : D6 ((((((wr9.setCell ⟨G, 0, none⟩ (.int .i64 (on : Int))).setCell ⟨G, 1, none⟩ (.int .i64 d)).setCell ⟨G, 2, none⟩ (.int .i64 s')).setCell ⟨G, 3, none⟩ (.int .i64 f')).setCell ⟨G, 4, none⟩ (.int .i64 i')).setCell ⟨G, 5, none⟩ (.int .i64 (z : Int))) w.heap.size 0 0 0 0 0 0 := D6.stO HX.out (by omega) (on : Int) d s' f' i' (z : Int)
          have HSL9 : SL ((((((wr9.setCell ⟨G, 0, none⟩ (.int .i64 (on : Int))).setCell ⟨G, 1, none⟩ (.int .i64 d)).setCell ⟨G, 2, none⟩ (.int .i64 s')).setCell ⟨G, 3, none⟩ (.int .i64 f')).setCell ⟨G, 4, none⟩ (.int .i64 i')).setCell ⟨G, 5, none⟩ (.int .i64 (z : Int))) L W := SL.stO HSL.out (by omega) (on : Int) d s' f' i' (z : Int)
          have HB9 : D6 ((((((wr9.setCell ⟨G, 0, none⟩ (.int .i64 (on : Int))).setCell ⟨G, 1, none⟩ (.int .i64 d)).setCell ⟨G, 2, none⟩ (.int .i64 s')).setCell ⟨G, 3, none⟩ (.int .i64 f')).setCell ⟨G, 4, none⟩ (.int .i64 i')).setCell ⟨G, 5, none⟩ (.int .i64 (z : Int))) B (on : Int) d' s' f' i' (z : Int) := D6.stO HB.out (by omega) (on : Int) d s' f' i' (z : Int)
          have H89 : D6 ((((((wr9.setCell ⟨G, 0, none⟩ (.int .i64 (on : Int))).setCell ⟨G, 1, none⟩ (.int .i64 d)).setCell ⟨G, 2, none⟩ (.int .i64 s')).setCell ⟨G, 3, none⟩ (.int .i64 f')).setCell ⟨G, 4, none⟩ (.int .i64 i')).setCell ⟨G, 5, none⟩ (.int .i64 (z : Int))) G (on : Int) d s' f' i' (z : Int) := D6.st H8.out (on : Int) d s' f' i' (z : Int)
          have HZ9 : Below w.heap.size w ((((((wr9.setCell ⟨G, 0, none⟩ (.int .i64 (on : Int))).setCell ⟨G, 1, none⟩ (.int .i64 d)).setCell ⟨G, 2, none⟩ (.int .i64 s')).setCell ⟨G, 3, none⟩ (.int .i64 f')).setCell ⟨G, 4, none⟩ (.int .i64 i')).setCell ⟨G, 5, none⟩ (.int .i64 (z : Int))) := stD_below HZ.out (by omega) (on : Int) d s' f' i' (z : Int)
          have CK9 : (((((((wr9.setCell ⟨G, 0, none⟩ (.int .i64 (on : Int))).setCell ⟨G, 1, none⟩ (.int .i64 d)).setCell ⟨G, 2, none⟩ (.int .i64 s')).setCell ⟨G, 3, none⟩ (.int .i64 f')).setCell ⟨G, 4, none⟩ (.int .i64 i')).setCell ⟨G, 5, none⟩ (.int .i64 (z : Int)))).cell? ⟨L, k1, none⟩ = some (.string x) := (World.cell?_setCell_other _ _ _ _ (by intro e; injection e; omega)).trans ((World.cell?_setCell_other _ _ _ _ (by intro e; injection e; omega)).trans ((World.cell?_setCell_other _ _ _ _ (by intro e; injection e; omega)).trans ((World.cell?_setCell_other _ _ _ _ (by intro e; injection e; omega)).trans ((World.cell?_setCell_other _ _ _ _ (by intro e; injection e; omega)).trans ((World.cell?_setCell_other _ _ _ _ (by intro e; injection e; omega)).trans CK.out)))))
          clear HX HSL HB H8 HZ CK
          generalize ((((((wr9.setCell ⟨G, 0, none⟩ (.int .i64 (on : Int))).setCell ⟨G, 1, none⟩ (.int .i64 d)).setCell ⟨G, 2, none⟩ (.int .i64 s')).setCell ⟨G, 3, none⟩ (.int .i64 f')).setCell ⟨G, 4, none⟩ (.int .i64 i')).setCell ⟨G, 5, none⟩ (.int .i64 (z : Int))) = wr14 at *
          have HX := hid HX9
          have HSL := hid HSL9
          have HB := hid HB9
          have H8 := hid H89
          have HZ := hid HZ9
          have CK := hid CK9
          clear HX9 HSL9 HB9 H89 HZ9 CK9
          refine hK.out _ _ ?hS22 (fun hHeld => ?re22)
          case hS22 => exact ⟨HB.out.c0, HB.out.c1, HB.out.c2, HB.out.c3, HB.out.c4, HB.out.c5, CK.out⟩
          clear hK K
          (try simp only [Act.put, List.setIfInBounds_toArray, List.set_cons_zero, List.set_cons_succ])
          refine wpAnyH_take (i := 15) (oi := ?oi23) (v := ?v23) (fuel := 0) ?hi23 ?hs23 ?hf23 ?hr23 ?hq23 (Or.inl ⟨?hw23, ?hy23⟩) hHeld ?rest23
          case hi23 => rw [List.getElem?_toArray]; rfl
          case hq23 => exact fun _ _ _ h => h
          case hs23 | hf23 | hr23 => kernel_rfl
          case hw23 => rfl
          case hy23 => (intro w1 hSw; (try dsimp only at hSw); go_simp; try with_reducible rfl)
          (try simp only [Act.put, List.setIfInBounds_toArray, List.set_cons_zero, List.set_cons_succ])
          refine wpAnyH_done (by kernel_rfl) ?_ _
          clear hHeld hbk hw6
          obtain ⟨e0, e1, e2, e3, e4, e5, el, ef⟩ := H8.out
          obtain ⟨b0, b1, b2, b3, b4, b5, bl, bf⟩ := HB.out
          go_wp2_with fail
          go_roundw
          case rel => exact ⟨k + 1, d, s', f', i', by omega, by go_num, hid (stD_below HZ.out (by omega) (on : Int) d s' f' i' (z : Int)), hid (D6.stO HX.out (by omega) (on : Int) d s' f' i' (z : Int)), hid (SL.stO HSL.out (by omega) (on : Int) d s' f' i' (z : Int)), hid (D6.st HB.out (on : Int) d s' f' i' (z : Int)), hid HCN.out⟩
          case measure => simp [intOf]; omega
        exact AllReadyH.nil
      · by_cases hs : 0 ≤ s
        · have hxw : x = ⟨#[114]⟩ ++ decI s := by rw [HXE.out, hp]; show regI s i = _; unfold regI; rw [if_pos hs]
          have HRG : Hid (regP x = (s, true)) := hid (by rw [hxw]; exact reg_dec s (by omega) (by omega))
          clear hxw
          have HCN := hid (cand_x1 hlt HC.out hp (HXS.out hs))
          have CK := hid ck
          have hltp : k < pb.size := by have := HPBS.out; omega
          have hbk : (pb[k]'hltp).toNat = 120 := by have := hbyte; simpa [hp] using this
          go_wp2_with fail
          refine wp_region_held_drew (S := (fun w' => w'.cell? ⟨B, 0, none⟩ = some (.int .i64 (on : Int)) ∧ w'.cell? ⟨B, 1, none⟩ = some (.int .i64 d') ∧ w'.cell? ⟨B, 2, none⟩ = some (.int .i64 s') ∧ w'.cell? ⟨B, 3, none⟩ = some (.int .i64 f') ∧ w'.cell? ⟨B, 4, none⟩ = some (.int .i64 i') ∧ w'.cell? ⟨B, 5, none⟩ = some (.int .i64 (z : Int)) ∧ w'.cell? ⟨L, k1, none⟩ = some (.string x))) (by kernel_rfl) (by exact ⟨HB.out.c0, HB.out.c1, HB.out.c2, HB.out.c3, HB.out.c4, HB.out.c5, ck⟩) (fun hHeld => ?_)
          have bd : Below wr.heap.size wr wr.drew := (Below.refl _ _).drew
          clear ck
          replace HX := hid (HX.out.bel bd)
          replace CK := hid ((bd.cell (p := ⟨L, k1, none⟩) HSL.out.1).trans CK.out)
          replace HSL := hid (HSL.out.below bd)
          replace HB := hid (HB.out.bel bd)
          replace HZ := hid (HZ.out.to bd)
          clear bd
          generalize wr.drew = W1 at *
          refine wpAnyH_take (i := 0) (oi := ?oi24) (v := ?v24) (fuel := 15) ?hi24 ?hs24 ?hf24 ?hr24 ?hq24 (Or.inl ⟨?hw24, ?hy24⟩) hHeld ?rest24
          case hi24 => rw [List.getElem?_toArray]; rfl
          case hq24 => exact fun _ _ _ h => h
          case hs24 | hf24 | hr24 => kernel_rfl
          case hw24 => rfl
          case hy24 => (intro w1 hSw; (try dsimp only at hSw); go_simp; try with_reducible rfl)
          (try simp only [Act.put, List.setIfInBounds_toArray, List.set_cons_zero, List.set_cons_succ])
          refine wpAnyH_take (i := 1) (oi := ?oi25) (v := ?v25) (fuel := 14) ?hi25 ?hs25 ?hf25 ?hr25 ?hq25 (Or.inl ⟨?hw25, ?hy25⟩) hHeld ?rest25
          case hi25 => rw [List.getElem?_toArray]; rfl
          case hq25 => exact fun _ _ _ h => h
          case hs25 | hf25 | hr25 => kernel_rfl
          case hw25 => rfl
          case hy25 => (intro w1 hSw; (try dsimp only at hSw); go_simp; try with_reducible rfl)
          (try simp only [Act.put, List.setIfInBounds_toArray, List.set_cons_zero, List.set_cons_succ])
          refine wpAnyH_take (i := 2) (oi := ?oi26) (v := ?v26) (fuel := 13) ?hi26 ?hs26 ?hf26 ?hr26 ?hq26 (Or.inl ⟨?hw26, ?hy26⟩) hHeld ?rest26
          case hi26 => rw [List.getElem?_toArray]; rfl
          case hq26 => exact fun _ _ _ h => h
          case hs26 | hf26 | hr26 => kernel_rfl
          case hw26 => rfl
          case hy26 => (intro w1 hSw; (try dsimp only at hSw); go_simp; try with_reducible rfl)
          (try simp only [Act.put, List.setIfInBounds_toArray, List.set_cons_zero, List.set_cons_succ])
          refine wpAnyH_take (i := 3) (oi := ?oi27) (v := .int .u8 120) (fuel := 12) ?hi27 ?hs27 ?hf27 ?hr27 ?hq27 (Or.inl ⟨?hw27, ?hy27⟩) hHeld ?rest27
          case hi27 => rw [List.getElem?_toArray]; rfl
          case hq27 => exact fun _ _ _ h => h
          case hs27 | hf27 | hr27 => kernel_rfl
          case hw27 => rfl
          case hy27 => (intro w1 hSw; (try dsimp only at hSw); go_simp; try (first | rfl | simp [hbk]))
          (try simp only [Act.put, List.setIfInBounds_toArray, List.set_cons_zero, List.set_cons_succ])
          refine wpAnyH_take (i := 4) (oi := ?oi28) (v := ?v28) (fuel := 11) ?hi28 ?hs28 ?hf28 ?hr28 ?hq28 (Or.inl ⟨?hw28, ?hy28⟩) hHeld ?rest28
          case hi28 => rw [List.getElem?_toArray]; rfl
          case hq28 => exact fun _ _ _ h => h
          case hs28 | hf28 | hr28 => kernel_rfl
          case hw28 => rfl
          case hy28 => (intro w1 hSw; (try dsimp only at hSw); go_simp; try with_reducible rfl)
          (try simp only [Act.put, List.setIfInBounds_toArray, List.set_cons_zero, List.set_cons_succ])
          refine wpAnyH_take (i := 5) (oi := ?oi29) (v := ?v29) (fuel := 10) ?hi29 ?hs29 ?hf29 ?hr29 ?hq29 (Or.inl ⟨?hw29, ?hy29⟩) hHeld ?rest29
          case hi29 => rw [List.getElem?_toArray]; rfl
          case hq29 => exact fun _ _ _ h => h
          case hs29 | hf29 | hr29 => kernel_rfl
          case hw29 => rfl
          case hy29 => (intro w1 hSw; (try dsimp only at hSw); go_simp; try with_reducible rfl)
          (try simp only [Act.put, List.setIfInBounds_toArray, List.set_cons_zero, List.set_cons_succ])
          refine wpAnyH_take (i := 6) (oi := ?oi30) (v := .int .i64 (k1 : Int)) (fuel := 9) ?hi30 ?hs30 ?hf30 ?hr30 ?hq30 (Or.inl ⟨?hw30, ?hy30⟩) hHeld ?rest30
          case hi30 => rw [List.getElem?_toArray]; rfl
          case hq30 => exact fun _ _ _ h => h
          case hs30 | hf30 | hr30 => kernel_rfl
          case hw30 => rfl
          case hy30 => (intro w1 hSw; (try dsimp only at hSw); go_simp; try simp [hw6])
          (try simp only [Act.put, List.setIfInBounds_toArray, List.set_cons_zero, List.set_cons_succ])
          refine wpAnyH_take (i := 7) (oi := ?oi31) (v := ?v31) (fuel := 8) ?hi31 ?hs31 ?hf31 ?hr31 ?hq31 (Or.inl ⟨?hw31, ?hy31⟩) hHeld ?rest31
          case hi31 => rw [List.getElem?_toArray]; rfl
          case hq31 => exact fun _ _ _ h => h
          case hs31 | hf31 | hr31 => kernel_rfl
          case hw31 => rfl
          case hy31 => (intro w1 hSw; (try dsimp only at hSw); go_simp; try with_reducible rfl)
          (try simp only [Act.put, List.setIfInBounds_toArray, List.set_cons_zero, List.set_cons_succ])
          refine wpAnyH_take (i := 8) (oi := ?oi32) (v := ?v32) (fuel := 7) ?hi32 ?hs32 ?hf32 ?hr32 ?hq32 (Or.inl ⟨?hw32, ?hy32⟩) hHeld ?rest32
          case hi32 => rw [List.getElem?_toArray]; rfl
          case hq32 => exact fun _ _ _ h => h
          case hs32 | hf32 | hr32 => kernel_rfl
          case hw32 => rfl
          case hy32 => (intro w1 hSw; (try dsimp only at hSw); go_simp; try with_reducible rfl)
          (try simp only [Act.put, List.setIfInBounds_toArray, List.set_cons_zero, List.set_cons_succ])
          refine wpAnyH_ready (fuel := 6) (rs := [9, 13]) (by kernel_rfl) (by simp) ?_
          refine AllReadyH.cons (o := ?oi33) ?hi33 (fun K hK => ?st33) ?mo33
          case hi33 => rw [List.getElem?_toArray]; rfl
          case st33 =>
            go_simp
            refine (gx1 _ _ _ _ _ _ x (by omega) s HRG.out _ (HT.out.below HZ.out)).mono ?_
            rintro ee wr9 ⟨rfl, bq⟩
            replace HX := hid (HX.out.bel bq)
            replace CK := hid ((bq.cell (p := ⟨L, k1, none⟩) HSL.out.1).trans CK.out)
            replace HSL := hid (HSL.out.below bq)
            replace HB := hid (HB.out.bel bq)
            replace HZ := hid (HZ.out.to bq)
            clear bq
            go_wp2_with fail
            refine hK.out _ _ ?hS33 (fun hHeld => ?re33)
            case hS33 => exact ⟨HB.out.c0, HB.out.c1, HB.out.c2, HB.out.c3, HB.out.c4, HB.out.c5, CK.out⟩
            clear hK K
            (try simp only [Act.put, List.setIfInBounds_toArray, List.set_cons_zero, List.set_cons_succ])
            refine wpAnyH_take (i := 10) (oi := ?oi34) (v := ?v34) (fuel := 5) ?hi34 ?hs34 ?hf34 ?hr34 ?hq34 (Or.inl ⟨?hw34, ?hy34⟩) hHeld ?rest34
            case hi34 => rw [List.getElem?_toArray]; rfl
            case hq34 => exact fun _ _ _ h => h
            case hs34 | hf34 | hr34 => kernel_rfl
            case hw34 => rfl
            case hy34 => (intro w1 hSw; (try dsimp only at hSw); go_simp; try with_reducible rfl)
            (try simp only [Act.put, List.setIfInBounds_toArray, List.set_cons_zero, List.set_cons_succ])
            refine wpAnyH_take (i := 11) (oi := ?oi35) (v := ?v35) (fuel := 4) ?hi35 ?hs35 ?hf35 ?hr35 ?hq35 (Or.inl ⟨?hw35, ?hy35⟩) hHeld ?rest35
            case hi35 => rw [List.getElem?_toArray]; rfl
            case hq35 => exact fun _ _ _ h => h
            case hs35 | hf35 | hr35 => kernel_rfl
            case hw35 => rfl
            case hy35 => (intro w1 hSw; (try dsimp only at hSw); go_simp; try with_reducible rfl)
            (try simp only [Act.put, List.setIfInBounds_toArray, List.set_cons_zero, List.set_cons_succ])
            refine wpAnyH_take (i := 12) (oi := ?oi36) (v := ?v36) (fuel := 3) ?hi36 ?hs36 ?hf36 ?hr36 ?hq36 (Or.inl ⟨?hw36, ?hy36⟩) hHeld ?rest36
            case hi36 => rw [List.getElem?_toArray]; rfl
            case hq36 => exact fun _ _ _ h => h
            case hs36 | hf36 | hr36 => kernel_rfl
            case hw36 => rfl
            case hy36 => (intro w1 hSw; (try dsimp only at hSw); go_simp; try with_reducible rfl)
            (try simp only [Act.put, List.setIfInBounds_toArray, List.set_cons_zero, List.set_cons_succ])
            refine wpAnyH_ready (fuel := 2) (rs := [13]) (by kernel_rfl) (by simp) ?_
            refine AllReadyH.cons (o := ?oi37) ?hi37 (fun K hK => ?st37) AllReadyH.nil
            case hi37 => rw [List.getElem?_toArray]; rfl
            go_simp
            have H8 := hid (D6.new wr9 0 0 0 0 0 0 24)
            have bA := belA wr9 (.cells #[.int .i64 0, .int .i64 0, .int .i64 0, .int .i64 0, .int .i64 0, .int .i64 0] 24)
            have lG1 := HX.out.lt
            have lG2 := HB.out.lt
            have lG3 := HSL.out.1
            replace HX := hid (HX.out.bel bA)
            replace CK := hid ((bA.cell (p := ⟨L, k1, none⟩) HSL.out.1).trans CK.out)
            replace HSL := hid (HSL.out.below bA)
            replace HB := hid (HB.out.bel bA)
            replace HZ := hid (HZ.out.to bA)
            clear bA
            generalize wr9.alloc (.cells #[.int .i64 0, .int .i64 0, .int .i64 0, .int .i64 0, .int .i64 0, .int .i64 0] 24) = wr13 at *
            generalize wr9.heap.size = G at *
            refine hK.out _ _ ?hS37 (fun hHeld => ?re37)
            case hS37 => exact ⟨HB.out.c0, HB.out.c1, HB.out.c2, HB.out.c3, HB.out.c4, HB.out.c5, CK.out⟩
            clear hK K
            (try simp only [Act.put, List.setIfInBounds_toArray, List.set_cons_zero, List.set_cons_succ])
            refine wpAnyH_ready (fuel := 1) (rs := [14]) (by kernel_rfl) (by simp) ?_
            refine AllReadyH.cons (o := ?oi38) ?hi38 (fun K hK => ?st38) AllReadyH.nil
            case hi38 => rw [List.getElem?_toArray]; rfl
            obtain ⟨e0, e1, e2, e3, e4, e5, el, ef⟩ := H8.out
            go_simp
            clear e0 e1 e2 e3 e4 e5 el ef
            have HX9 : D6 ((((((wr13.setCell ⟨G, 0, none⟩ (.int .i64 (on : Int))).setCell ⟨G, 1, none⟩ (.int .i64 d')).setCell ⟨G, 2, none⟩ (.int .i64 s)).setCell ⟨G, 3, none⟩ (.int .i64 f')).setCell ⟨G, 4, none⟩ (.int .i64 i')).setCell ⟨G, 5, none⟩ (.int .i64 (z : Int))) w.heap.size 0 0 0 0 0 0 := D6.stO HX.out (by omega) (on : Int) d' s f' i' (z : Int)
            have HSL9 : SL ((((((wr13.setCell ⟨G, 0, none⟩ (.int .i64 (on : Int))).setCell ⟨G, 1, none⟩ (.int .i64 d')).setCell ⟨G, 2, none⟩ (.int .i64 s)).setCell ⟨G, 3, none⟩ (.int .i64 f')).setCell ⟨G, 4, none⟩ (.int .i64 i')).setCell ⟨G, 5, none⟩ (.int .i64 (z : Int))) L W := SL.stO HSL.out (by omega) (on : Int) d' s f' i' (z : Int)
            have HB9 : D6 ((((((wr13.setCell ⟨G, 0, none⟩ (.int .i64 (on : Int))).setCell ⟨G, 1, none⟩ (.int .i64 d')).setCell ⟨G, 2, none⟩ (.int .i64 s)).setCell ⟨G, 3, none⟩ (.int .i64 f')).setCell ⟨G, 4, none⟩ (.int .i64 i')).setCell ⟨G, 5, none⟩ (.int .i64 (z : Int))) B (on : Int) d' s' f' i' (z : Int) := D6.stO HB.out (by omega) (on : Int) d' s f' i' (z : Int)
            have H89 : D6 ((((((wr13.setCell ⟨G, 0, none⟩ (.int .i64 (on : Int))).setCell ⟨G, 1, none⟩ (.int .i64 d')).setCell ⟨G, 2, none⟩ (.int .i64 s)).setCell ⟨G, 3, none⟩ (.int .i64 f')).setCell ⟨G, 4, none⟩ (.int .i64 i')).setCell ⟨G, 5, none⟩ (.int .i64 (z : Int))) G (on : Int) d' s f' i' (z : Int) := D6.st H8.out (on : Int) d' s f' i' (z : Int)
            have HZ9 : Below w.heap.size w ((((((wr13.setCell ⟨G, 0, none⟩ (.int .i64 (on : Int))).setCell ⟨G, 1, none⟩ (.int .i64 d')).setCell ⟨G, 2, none⟩ (.int .i64 s)).setCell ⟨G, 3, none⟩ (.int .i64 f')).setCell ⟨G, 4, none⟩ (.int .i64 i')).setCell ⟨G, 5, none⟩ (.int .i64 (z : Int))) := stD_below HZ.out (by omega) (on : Int) d' s f' i' (z : Int)
            have CK9 : (((((((wr13.setCell ⟨G, 0, none⟩ (.int .i64 (on : Int))).setCell ⟨G, 1, none⟩ (.int .i64 d')).setCell ⟨G, 2, none⟩ (.int .i64 s)).setCell ⟨G, 3, none⟩ (.int .i64 f')).setCell ⟨G, 4, none⟩ (.int .i64 i')).setCell ⟨G, 5, none⟩ (.int .i64 (z : Int)))).cell? ⟨L, k1, none⟩ = some (.string x) := (World.cell?_setCell_other _ _ _ _ (by intro e; injection e; omega)).trans ((World.cell?_setCell_other _ _ _ _ (by intro e; injection e; omega)).trans ((World.cell?_setCell_other _ _ _ _ (by intro e; injection e; omega)).trans ((World.cell?_setCell_other _ _ _ _ (by intro e; injection e; omega)).trans ((World.cell?_setCell_other _ _ _ _ (by intro e; injection e; omega)).trans ((World.cell?_setCell_other _ _ _ _ (by intro e; injection e; omega)).trans CK.out)))))
            clear HX HSL HB H8 HZ CK
            generalize ((((((wr13.setCell ⟨G, 0, none⟩ (.int .i64 (on : Int))).setCell ⟨G, 1, none⟩ (.int .i64 d')).setCell ⟨G, 2, none⟩ (.int .i64 s)).setCell ⟨G, 3, none⟩ (.int .i64 f')).setCell ⟨G, 4, none⟩ (.int .i64 i')).setCell ⟨G, 5, none⟩ (.int .i64 (z : Int))) = wr14 at *
            have HX := hid HX9
            have HSL := hid HSL9
            have HB := hid HB9
            have H8 := hid H89
            have HZ := hid HZ9
            have CK := hid CK9
            clear HX9 HSL9 HB9 H89 HZ9 CK9
            refine hK.out _ _ ?hS38 (fun hHeld => ?re38)
            case hS38 => exact ⟨HB.out.c0, HB.out.c1, HB.out.c2, HB.out.c3, HB.out.c4, HB.out.c5, CK.out⟩
            clear hK K
            (try simp only [Act.put, List.setIfInBounds_toArray, List.set_cons_zero, List.set_cons_succ])
            refine wpAnyH_take (i := 15) (oi := ?oi39) (v := ?v39) (fuel := 0) ?hi39 ?hs39 ?hf39 ?hr39 ?hq39 (Or.inl ⟨?hw39, ?hy39⟩) hHeld ?rest39
            case hi39 => rw [List.getElem?_toArray]; rfl
            case hq39 => exact fun _ _ _ h => h
            case hs39 | hf39 | hr39 => kernel_rfl
            case hw39 => rfl
            case hy39 => (intro w1 hSw; (try dsimp only at hSw); go_simp; try with_reducible rfl)
            (try simp only [Act.put, List.setIfInBounds_toArray, List.set_cons_zero, List.set_cons_succ])
            refine wpAnyH_done (by kernel_rfl) ?_ _
            clear hHeld hbk hw6
            obtain ⟨e0, e1, e2, e3, e4, e5, el, ef⟩ := H8.out
            obtain ⟨b0, b1, b2, b3, b4, b5, bl, bf⟩ := HB.out
            go_wp2_with fail
            go_roundw
            case rel => exact ⟨k + 1, d', s, f', i', by omega, by go_num, hid (stD_below HZ.out (by omega) (on : Int) d' s f' i' (z : Int)), hid (D6.stO HX.out (by omega) (on : Int) d' s f' i' (z : Int)), hid (SL.stO HSL.out (by omega) (on : Int) d' s f' i' (z : Int)), hid (D6.st HB.out (on : Int) d' s f' i' (z : Int)), hid HCN.out⟩
            case measure => simp [intOf]; omega
          refine AllReadyH.cons (o := ?oi40) ?hi40 (fun K hK => ?st40) ?mo40
          case hi40 => rw [List.getElem?_toArray]; rfl
          case st40 =>
            go_simp
            have H8 := hid (D6.new W1 0 0 0 0 0 0 24)
            have bA := belA W1 (.cells #[.int .i64 0, .int .i64 0, .int .i64 0, .int .i64 0, .int .i64 0, .int .i64 0] 24)
            have lG1 := HX.out.lt
            have lG2 := HB.out.lt
            have lG3 := HSL.out.1
            replace HX := hid (HX.out.bel bA)
            replace CK := hid ((bA.cell (p := ⟨L, k1, none⟩) HSL.out.1).trans CK.out)
            replace HSL := hid (HSL.out.below bA)
            replace HB := hid (HB.out.bel bA)
            replace HZ := hid (HZ.out.to bA)
            clear bA
            generalize W1.alloc (.cells #[.int .i64 0, .int .i64 0, .int .i64 0, .int .i64 0, .int .i64 0, .int .i64 0] 24) = wr13 at *
            generalize W1.heap.size = G at *
            refine hK.out _ _ ?hS40 (fun hHeld => ?re40)
            case hS40 => exact ⟨HB.out.c0, HB.out.c1, HB.out.c2, HB.out.c3, HB.out.c4, HB.out.c5, CK.out⟩
            clear hK K
            (try simp only [Act.put, List.setIfInBounds_toArray, List.set_cons_zero, List.set_cons_succ])
            refine wpAnyH_ready (fuel := 5) (rs := [9]) (by kernel_rfl) (by simp) ?_
            refine AllReadyH.cons (o := ?oi41) ?hi41 (fun K hK => ?st41) AllReadyH.nil
            case hi41 => rw [List.getElem?_toArray]; rfl
            go_simp
            refine (gx1 _ _ _ _ _ _ x (by omega) s HRG.out _ (HT.out.below HZ.out)).mono ?_
            rintro ee wr9 ⟨rfl, bq⟩
            replace HX := hid (HX.out.bel bq)
            replace CK := hid ((bq.cell (p := ⟨L, k1, none⟩) HSL.out.1).trans CK.out)
            replace HSL := hid (HSL.out.below bq)
            replace HB := hid (HB.out.bel bq)
            replace H8 := hid (H8.out.bel bq)
            replace HZ := hid (HZ.out.to bq)
            clear bq
            go_wp2_with fail
            refine hK.out _ _ ?hS41 (fun hHeld => ?re41)
            case hS41 => exact ⟨HB.out.c0, HB.out.c1, HB.out.c2, HB.out.c3, HB.out.c4, HB.out.c5, CK.out⟩
            clear hK K
            (try simp only [Act.put, List.setIfInBounds_toArray, List.set_cons_zero, List.set_cons_succ])
            refine wpAnyH_take (i := 10) (oi := ?oi42) (v := ?v42) (fuel := 4) ?hi42 ?hs42 ?hf42 ?hr42 ?hq42 (Or.inl ⟨?hw42, ?hy42⟩) hHeld ?rest42
            case hi42 => rw [List.getElem?_toArray]; rfl
            case hq42 => exact fun _ _ _ h => h
            case hs42 | hf42 | hr42 => kernel_rfl
            case hw42 => rfl
            case hy42 => (intro w1 hSw; (try dsimp only at hSw); go_simp; try with_reducible rfl)
            (try simp only [Act.put, List.setIfInBounds_toArray, List.set_cons_zero, List.set_cons_succ])
            refine wpAnyH_take (i := 11) (oi := ?oi43) (v := ?v43) (fuel := 3) ?hi43 ?hs43 ?hf43 ?hr43 ?hq43 (Or.inl ⟨?hw43, ?hy43⟩) hHeld ?rest43
            case hi43 => rw [List.getElem?_toArray]; rfl
            case hq43 => exact fun _ _ _ h => h
            case hs43 | hf43 | hr43 => kernel_rfl
            case hw43 => rfl
            case hy43 => (intro w1 hSw; (try dsimp only at hSw); go_simp; try with_reducible rfl)
            (try simp only [Act.put, List.setIfInBounds_toArray, List.set_cons_zero, List.set_cons_succ])
            refine wpAnyH_take (i := 12) (oi := ?oi44) (v := ?v44) (fuel := 2) ?hi44 ?hs44 ?hf44 ?hr44 ?hq44 (Or.inl ⟨?hw44, ?hy44⟩) hHeld ?rest44
            case hi44 => rw [List.getElem?_toArray]; rfl
            case hq44 => exact fun _ _ _ h => h
            case hs44 | hf44 | hr44 => kernel_rfl
            case hw44 => rfl
            case hy44 => (intro w1 hSw; (try dsimp only at hSw); go_simp; try with_reducible rfl)
            (try simp only [Act.put, List.setIfInBounds_toArray, List.set_cons_zero, List.set_cons_succ])
            refine wpAnyH_ready (fuel := 1) (rs := [14]) (by kernel_rfl) (by simp) ?_
            refine AllReadyH.cons (o := ?oi45) ?hi45 (fun K hK => ?st45) AllReadyH.nil
            case hi45 => rw [List.getElem?_toArray]; rfl
            obtain ⟨e0, e1, e2, e3, e4, e5, el, ef⟩ := H8.out
            go_simp
            clear e0 e1 e2 e3 e4 e5 el ef
            have HX9 : D6 ((((((wr9.setCell ⟨G, 0, none⟩ (.int .i64 (on : Int))).setCell ⟨G, 1, none⟩ (.int .i64 d')).setCell ⟨G, 2, none⟩ (.int .i64 s)).setCell ⟨G, 3, none⟩ (.int .i64 f')).setCell ⟨G, 4, none⟩ (.int .i64 i')).setCell ⟨G, 5, none⟩ (.int .i64 (z : Int))) w.heap.size 0 0 0 0 0 0 := D6.stO HX.out (by omega) (on : Int) d' s f' i' (z : Int)
            have HSL9 : SL ((((((wr9.setCell ⟨G, 0, none⟩ (.int .i64 (on : Int))).setCell ⟨G, 1, none⟩ (.int .i64 d')).setCell ⟨G, 2, none⟩ (.int .i64 s)).setCell ⟨G, 3, none⟩ (.int .i64 f')).setCell ⟨G, 4, none⟩ (.int .i64 i')).setCell ⟨G, 5, none⟩ (.int .i64 (z : Int))) L W := SL.stO HSL.out (by omega) (on : Int) d' s f' i' (z : Int)
            have HB9 : D6 ((((((wr9.setCell ⟨G, 0, none⟩ (.int .i64 (on : Int))).setCell ⟨G, 1, none⟩ (.int .i64 d')).setCell ⟨G, 2, none⟩ (.int .i64 s)).setCell ⟨G, 3, none⟩ (.int .i64 f')).setCell ⟨G, 4, none⟩ (.int .i64 i')).setCell ⟨G, 5, none⟩ (.int .i64 (z : Int))) B (on : Int) d' s' f' i' (z : Int) := D6.stO HB.out (by omega) (on : Int) d' s f' i' (z : Int)
            have H89 : D6 ((((((wr9.setCell ⟨G, 0, none⟩ (.int .i64 (on : Int))).setCell ⟨G, 1, none⟩ (.int .i64 d')).setCell ⟨G, 2, none⟩ (.int .i64 s)).setCell ⟨G, 3, none⟩ (.int .i64 f')).setCell ⟨G, 4, none⟩ (.int .i64 i')).setCell ⟨G, 5, none⟩ (.int .i64 (z : Int))) G (on : Int) d' s f' i' (z : Int) := D6.st H8.out (on : Int) d' s f' i' (z : Int)
            have HZ9 : Below w.heap.size w ((((((wr9.setCell ⟨G, 0, none⟩ (.int .i64 (on : Int))).setCell ⟨G, 1, none⟩ (.int .i64 d')).setCell ⟨G, 2, none⟩ (.int .i64 s)).setCell ⟨G, 3, none⟩ (.int .i64 f')).setCell ⟨G, 4, none⟩ (.int .i64 i')).setCell ⟨G, 5, none⟩ (.int .i64 (z : Int))) := stD_below HZ.out (by omega) (on : Int) d' s f' i' (z : Int)
            have CK9 : (((((((wr9.setCell ⟨G, 0, none⟩ (.int .i64 (on : Int))).setCell ⟨G, 1, none⟩ (.int .i64 d')).setCell ⟨G, 2, none⟩ (.int .i64 s)).setCell ⟨G, 3, none⟩ (.int .i64 f')).setCell ⟨G, 4, none⟩ (.int .i64 i')).setCell ⟨G, 5, none⟩ (.int .i64 (z : Int)))).cell? ⟨L, k1, none⟩ = some (.string x) := (World.cell?_setCell_other _ _ _ _ (by intro e; injection e; omega)).trans ((World.cell?_setCell_other _ _ _ _ (by intro e; injection e; omega)).trans ((World.cell?_setCell_other _ _ _ _ (by intro e; injection e; omega)).trans ((World.cell?_setCell_other _ _ _ _ (by intro e; injection e; omega)).trans ((World.cell?_setCell_other _ _ _ _ (by intro e; injection e; omega)).trans ((World.cell?_setCell_other _ _ _ _ (by intro e; injection e; omega)).trans CK.out)))))
            clear HX HSL HB H8 HZ CK
            generalize ((((((wr9.setCell ⟨G, 0, none⟩ (.int .i64 (on : Int))).setCell ⟨G, 1, none⟩ (.int .i64 d')).setCell ⟨G, 2, none⟩ (.int .i64 s)).setCell ⟨G, 3, none⟩ (.int .i64 f')).setCell ⟨G, 4, none⟩ (.int .i64 i')).setCell ⟨G, 5, none⟩ (.int .i64 (z : Int))) = wr14 at *
            have HX := hid HX9
            have HSL := hid HSL9
            have HB := hid HB9
            have H8 := hid H89
            have HZ := hid HZ9
            have CK := hid CK9
            clear HX9 HSL9 HB9 H89 HZ9 CK9
            refine hK.out _ _ ?hS45 (fun hHeld => ?re45)
            case hS45 => exact ⟨HB.out.c0, HB.out.c1, HB.out.c2, HB.out.c3, HB.out.c4, HB.out.c5, CK.out⟩
            clear hK K
            (try simp only [Act.put, List.setIfInBounds_toArray, List.set_cons_zero, List.set_cons_succ])
            refine wpAnyH_take (i := 15) (oi := ?oi46) (v := ?v46) (fuel := 0) ?hi46 ?hs46 ?hf46 ?hr46 ?hq46 (Or.inl ⟨?hw46, ?hy46⟩) hHeld ?rest46
            case hi46 => rw [List.getElem?_toArray]; rfl
            case hq46 => exact fun _ _ _ h => h
            case hs46 | hf46 | hr46 => kernel_rfl
            case hw46 => rfl
            case hy46 => (intro w1 hSw; (try dsimp only at hSw); go_simp; try with_reducible rfl)
            (try simp only [Act.put, List.setIfInBounds_toArray, List.set_cons_zero, List.set_cons_succ])
            refine wpAnyH_done (by kernel_rfl) ?_ _
            clear hHeld hbk hw6
            obtain ⟨e0, e1, e2, e3, e4, e5, el, ef⟩ := H8.out
            obtain ⟨b0, b1, b2, b3, b4, b5, bl, bf⟩ := HB.out
            go_wp2_with fail
            go_roundw
            case rel => exact ⟨k + 1, d', s, f', i', by omega, by go_num, hid (stD_below HZ.out (by omega) (on : Int) d' s f' i' (z : Int)), hid (D6.stO HX.out (by omega) (on : Int) d' s f' i' (z : Int)), hid (SL.stO HSL.out (by omega) (on : Int) d' s f' i' (z : Int)), hid (D6.st HB.out (on : Int) d' s f' i' (z : Int)), hid HCN.out⟩
            case measure => simp [intOf]; omega
          exact AllReadyH.nil
        · have hxw : x = decI i := by rw [HXE.out, hp]; show regI s i = _; unfold regI; rw [if_neg hs]
          have hs1 : s = -1 := by omega
          have HRG : Hid (regP x = (0, false)) := hid (by rw [hxw]; exact reg_num i)
          have HRN : Hid (atoiP x = (i, true)) := hid (by rw [hxw]; exact atoi_dec i (by omega) (by omega))
          clear hxw
          have HCN := hid (cand_x0 hlt HC.out hp hs1)
          have CK := hid ck
          have hltp : k < pb.size := by have := HPBS.out; omega
          have hbk : (pb[k]'hltp).toNat = 120 := by have := hbyte; simpa [hp] using this
          go_wp2_with fail
          refine wp_region_held_drew (S := (fun w' => w'.cell? ⟨B, 0, none⟩ = some (.int .i64 (on : Int)) ∧ w'.cell? ⟨B, 1, none⟩ = some (.int .i64 d') ∧ w'.cell? ⟨B, 2, none⟩ = some (.int .i64 s') ∧ w'.cell? ⟨B, 3, none⟩ = some (.int .i64 f') ∧ w'.cell? ⟨B, 4, none⟩ = some (.int .i64 i') ∧ w'.cell? ⟨B, 5, none⟩ = some (.int .i64 (z : Int)) ∧ w'.cell? ⟨L, k1, none⟩ = some (.string x))) (by kernel_rfl) (by exact ⟨HB.out.c0, HB.out.c1, HB.out.c2, HB.out.c3, HB.out.c4, HB.out.c5, ck⟩) (fun hHeld => ?_)
          have bd : Below wr.heap.size wr wr.drew := (Below.refl _ _).drew
          clear ck
          replace HX := hid (HX.out.bel bd)
          replace CK := hid ((bd.cell (p := ⟨L, k1, none⟩) HSL.out.1).trans CK.out)
          replace HSL := hid (HSL.out.below bd)
          replace HB := hid (HB.out.bel bd)
          replace HZ := hid (HZ.out.to bd)
          clear bd
          generalize wr.drew = W1 at *
          refine wpAnyH_take (i := 0) (oi := ?oi47) (v := ?v47) (fuel := 15) ?hi47 ?hs47 ?hf47 ?hr47 ?hq47 (Or.inl ⟨?hw47, ?hy47⟩) hHeld ?rest47
          case hi47 => rw [List.getElem?_toArray]; rfl
          case hq47 => exact fun _ _ _ h => h
          case hs47 | hf47 | hr47 => kernel_rfl
          case hw47 => rfl
          case hy47 => (intro w1 hSw; (try dsimp only at hSw); go_simp; try with_reducible rfl)
          (try simp only [Act.put, List.setIfInBounds_toArray, List.set_cons_zero, List.set_cons_succ])
          refine wpAnyH_take (i := 1) (oi := ?oi48) (v := ?v48) (fuel := 14) ?hi48 ?hs48 ?hf48 ?hr48 ?hq48 (Or.inl ⟨?hw48, ?hy48⟩) hHeld ?rest48
          case hi48 => rw [List.getElem?_toArray]; rfl
          case hq48 => exact fun _ _ _ h => h
          case hs48 | hf48 | hr48 => kernel_rfl
          case hw48 => rfl
          case hy48 => (intro w1 hSw; (try dsimp only at hSw); go_simp; try with_reducible rfl)
          (try simp only [Act.put, List.setIfInBounds_toArray, List.set_cons_zero, List.set_cons_succ])
          refine wpAnyH_take (i := 2) (oi := ?oi49) (v := ?v49) (fuel := 13) ?hi49 ?hs49 ?hf49 ?hr49 ?hq49 (Or.inl ⟨?hw49, ?hy49⟩) hHeld ?rest49
          case hi49 => rw [List.getElem?_toArray]; rfl
          case hq49 => exact fun _ _ _ h => h
          case hs49 | hf49 | hr49 => kernel_rfl
          case hw49 => rfl
          case hy49 => (intro w1 hSw; (try dsimp only at hSw); go_simp; try with_reducible rfl)
          (try simp only [Act.put, List.setIfInBounds_toArray, List.set_cons_zero, List.set_cons_succ])
          refine wpAnyH_take (i := 3) (oi := ?oi50) (v := .int .u8 120) (fuel := 12) ?hi50 ?hs50 ?hf50 ?hr50 ?hq50 (Or.inl ⟨?hw50, ?hy50⟩) hHeld ?rest50
          case hi50 => rw [List.getElem?_toArray]; rfl
          case hq50 => exact fun _ _ _ h => h
          case hs50 | hf50 | hr50 => kernel_rfl
          case hw50 => rfl
          case hy50 => (intro w1 hSw; (try dsimp only at hSw); go_simp; try (first | rfl | simp [hbk]))
          (try simp only [Act.put, List.setIfInBounds_toArray, List.set_cons_zero, List.set_cons_succ])
          refine wpAnyH_take (i := 4) (oi := ?oi51) (v := ?v51) (fuel := 11) ?hi51 ?hs51 ?hf51 ?hr51 ?hq51 (Or.inl ⟨?hw51, ?hy51⟩) hHeld ?rest51
          case hi51 => rw [List.getElem?_toArray]; rfl
          case hq51 => exact fun _ _ _ h => h
          case hs51 | hf51 | hr51 => kernel_rfl
          case hw51 => rfl
          case hy51 => (intro w1 hSw; (try dsimp only at hSw); go_simp; try with_reducible rfl)
          (try simp only [Act.put, List.setIfInBounds_toArray, List.set_cons_zero, List.set_cons_succ])
          refine wpAnyH_take (i := 5) (oi := ?oi52) (v := ?v52) (fuel := 10) ?hi52 ?hs52 ?hf52 ?hr52 ?hq52 (Or.inl ⟨?hw52, ?hy52⟩) hHeld ?rest52
          case hi52 => rw [List.getElem?_toArray]; rfl
          case hq52 => exact fun _ _ _ h => h
          case hs52 | hf52 | hr52 => kernel_rfl
          case hw52 => rfl
          case hy52 => (intro w1 hSw; (try dsimp only at hSw); go_simp; try with_reducible rfl)
          (try simp only [Act.put, List.setIfInBounds_toArray, List.set_cons_zero, List.set_cons_succ])
          refine wpAnyH_take (i := 6) (oi := ?oi53) (v := .int .i64 (k1 : Int)) (fuel := 9) ?hi53 ?hs53 ?hf53 ?hr53 ?hq53 (Or.inl ⟨?hw53, ?hy53⟩) hHeld ?rest53
          case hi53 => rw [List.getElem?_toArray]; rfl
          case hq53 => exact fun _ _ _ h => h
          case hs53 | hf53 | hr53 => kernel_rfl
          case hw53 => rfl
          case hy53 => (intro w1 hSw; (try dsimp only at hSw); go_simp; try simp [hw6])
          (try simp only [Act.put, List.setIfInBounds_toArray, List.set_cons_zero, List.set_cons_succ])
          refine wpAnyH_take (i := 7) (oi := ?oi54) (v := ?v54) (fuel := 8) ?hi54 ?hs54 ?hf54 ?hr54 ?hq54 (Or.inl ⟨?hw54, ?hy54⟩) hHeld ?rest54
          case hi54 => rw [List.getElem?_toArray]; rfl
          case hq54 => exact fun _ _ _ h => h
          case hs54 | hf54 | hr54 => kernel_rfl
          case hw54 => rfl
          case hy54 => (intro w1 hSw; (try dsimp only at hSw); go_simp; try with_reducible rfl)
          (try simp only [Act.put, List.setIfInBounds_toArray, List.set_cons_zero, List.set_cons_succ])
          refine wpAnyH_take (i := 8) (oi := ?oi55) (v := ?v55) (fuel := 7) ?hi55 ?hs55 ?hf55 ?hr55 ?hq55 (Or.inl ⟨?hw55, ?hy55⟩) hHeld ?rest55
          case hi55 => rw [List.getElem?_toArray]; rfl
          case hq55 => exact fun _ _ _ h => h
          case hs55 | hf55 | hr55 => kernel_rfl
          case hw55 => rfl
          case hy55 => (intro w1 hSw; (try dsimp only at hSw); go_simp; try with_reducible rfl)
          (try simp only [Act.put, List.setIfInBounds_toArray, List.set_cons_zero, List.set_cons_succ])
          refine wpAnyH_ready (fuel := 6) (rs := [9, 13]) (by kernel_rfl) (by simp) ?_
          refine AllReadyH.cons (o := ?oi56) ?hi56 (fun K hK => ?st56) ?mo56
          case hi56 => rw [List.getElem?_toArray]; rfl
          case st56 =>
            go_simp
            refine (gx0 _ _ _ _ _ _ x (by omega) i HRG.out HRN.out _ (HT.out.below HZ.out)).mono ?_
            rintro ee wr9 ⟨rfl, bq⟩
            replace HX := hid (HX.out.bel bq)
            replace CK := hid ((bq.cell (p := ⟨L, k1, none⟩) HSL.out.1).trans CK.out)
            replace HSL := hid (HSL.out.below bq)
            replace HB := hid (HB.out.bel bq)
            replace HZ := hid (HZ.out.to bq)
            clear bq
            go_wp2_with fail
            refine hK.out _ _ ?hS56 (fun hHeld => ?re56)
            case hS56 => exact ⟨HB.out.c0, HB.out.c1, HB.out.c2, HB.out.c3, HB.out.c4, HB.out.c5, CK.out⟩
            clear hK K
            (try simp only [Act.put, List.setIfInBounds_toArray, List.set_cons_zero, List.set_cons_succ])
            refine wpAnyH_take (i := 10) (oi := ?oi57) (v := ?v57) (fuel := 5) ?hi57 ?hs57 ?hf57 ?hr57 ?hq57 (Or.inl ⟨?hw57, ?hy57⟩) hHeld ?rest57
            case hi57 => rw [List.getElem?_toArray]; rfl
            case hq57 => exact fun _ _ _ h => h
            case hs57 | hf57 | hr57 => kernel_rfl
            case hw57 => rfl
            case hy57 => (intro w1 hSw; (try dsimp only at hSw); go_simp; try with_reducible rfl)
            (try simp only [Act.put, List.setIfInBounds_toArray, List.set_cons_zero, List.set_cons_succ])
            refine wpAnyH_take (i := 11) (oi := ?oi58) (v := ?v58) (fuel := 4) ?hi58 ?hs58 ?hf58 ?hr58 ?hq58 (Or.inl ⟨?hw58, ?hy58⟩) hHeld ?rest58
            case hi58 => rw [List.getElem?_toArray]; rfl
            case hq58 => exact fun _ _ _ h => h
            case hs58 | hf58 | hr58 => kernel_rfl
            case hw58 => rfl
            case hy58 => (intro w1 hSw; (try dsimp only at hSw); go_simp; try with_reducible rfl)
            (try simp only [Act.put, List.setIfInBounds_toArray, List.set_cons_zero, List.set_cons_succ])
            refine wpAnyH_take (i := 12) (oi := ?oi59) (v := ?v59) (fuel := 3) ?hi59 ?hs59 ?hf59 ?hr59 ?hq59 (Or.inl ⟨?hw59, ?hy59⟩) hHeld ?rest59
            case hi59 => rw [List.getElem?_toArray]; rfl
            case hq59 => exact fun _ _ _ h => h
            case hs59 | hf59 | hr59 => kernel_rfl
            case hw59 => rfl
            case hy59 => (intro w1 hSw; (try dsimp only at hSw); go_simp; try with_reducible rfl)
            (try simp only [Act.put, List.setIfInBounds_toArray, List.set_cons_zero, List.set_cons_succ])
            refine wpAnyH_ready (fuel := 2) (rs := [13]) (by kernel_rfl) (by simp) ?_
            refine AllReadyH.cons (o := ?oi60) ?hi60 (fun K hK => ?st60) AllReadyH.nil
            case hi60 => rw [List.getElem?_toArray]; rfl
            go_simp
            have H8 := hid (D6.new wr9 0 0 0 0 0 0 24)
            have bA := belA wr9 (.cells #[.int .i64 0, .int .i64 0, .int .i64 0, .int .i64 0, .int .i64 0, .int .i64 0] 24)
            have lG1 := HX.out.lt
            have lG2 := HB.out.lt
            have lG3 := HSL.out.1
            replace HX := hid (HX.out.bel bA)
            replace CK := hid ((bA.cell (p := ⟨L, k1, none⟩) HSL.out.1).trans CK.out)
            replace HSL := hid (HSL.out.below bA)
            replace HB := hid (HB.out.bel bA)
            replace HZ := hid (HZ.out.to bA)
            clear bA
            generalize wr9.alloc (.cells #[.int .i64 0, .int .i64 0, .int .i64 0, .int .i64 0, .int .i64 0, .int .i64 0] 24) = wr13 at *
            generalize wr9.heap.size = G at *
            refine hK.out _ _ ?hS60 (fun hHeld => ?re60)
            case hS60 => exact ⟨HB.out.c0, HB.out.c1, HB.out.c2, HB.out.c3, HB.out.c4, HB.out.c5, CK.out⟩
            clear hK K
            (try simp only [Act.put, List.setIfInBounds_toArray, List.set_cons_zero, List.set_cons_succ])
            refine wpAnyH_ready (fuel := 1) (rs := [14]) (by kernel_rfl) (by simp) ?_
            refine AllReadyH.cons (o := ?oi61) ?hi61 (fun K hK => ?st61) AllReadyH.nil
            case hi61 => rw [List.getElem?_toArray]; rfl
            obtain ⟨e0, e1, e2, e3, e4, e5, el, ef⟩ := H8.out
            go_simp
            clear e0 e1 e2 e3 e4 e5 el ef
            have HX9 : D6 ((((((wr13.setCell ⟨G, 0, none⟩ (.int .i64 (on : Int))).setCell ⟨G, 1, none⟩ (.int .i64 d')).setCell ⟨G, 2, none⟩ (.int .i64 (-1))).setCell ⟨G, 3, none⟩ (.int .i64 f')).setCell ⟨G, 4, none⟩ (.int .i64 i)).setCell ⟨G, 5, none⟩ (.int .i64 (z : Int))) w.heap.size 0 0 0 0 0 0 := D6.stO HX.out (by omega) (on : Int) d' (-1) f' i (z : Int)
            have HSL9 : SL ((((((wr13.setCell ⟨G, 0, none⟩ (.int .i64 (on : Int))).setCell ⟨G, 1, none⟩ (.int .i64 d')).setCell ⟨G, 2, none⟩ (.int .i64 (-1))).setCell ⟨G, 3, none⟩ (.int .i64 f')).setCell ⟨G, 4, none⟩ (.int .i64 i)).setCell ⟨G, 5, none⟩ (.int .i64 (z : Int))) L W := SL.stO HSL.out (by omega) (on : Int) d' (-1) f' i (z : Int)
            have HB9 : D6 ((((((wr13.setCell ⟨G, 0, none⟩ (.int .i64 (on : Int))).setCell ⟨G, 1, none⟩ (.int .i64 d')).setCell ⟨G, 2, none⟩ (.int .i64 (-1))).setCell ⟨G, 3, none⟩ (.int .i64 f')).setCell ⟨G, 4, none⟩ (.int .i64 i)).setCell ⟨G, 5, none⟩ (.int .i64 (z : Int))) B (on : Int) d' s' f' i' (z : Int) := D6.stO HB.out (by omega) (on : Int) d' (-1) f' i (z : Int)
            have H89 : D6 ((((((wr13.setCell ⟨G, 0, none⟩ (.int .i64 (on : Int))).setCell ⟨G, 1, none⟩ (.int .i64 d')).setCell ⟨G, 2, none⟩ (.int .i64 (-1))).setCell ⟨G, 3, none⟩ (.int .i64 f')).setCell ⟨G, 4, none⟩ (.int .i64 i)).setCell ⟨G, 5, none⟩ (.int .i64 (z : Int))) G (on : Int) d' (-1) f' i (z : Int) := D6.st H8.out (on : Int) d' (-1) f' i (z : Int)
            have HZ9 : Below w.heap.size w ((((((wr13.setCell ⟨G, 0, none⟩ (.int .i64 (on : Int))).setCell ⟨G, 1, none⟩ (.int .i64 d')).setCell ⟨G, 2, none⟩ (.int .i64 (-1))).setCell ⟨G, 3, none⟩ (.int .i64 f')).setCell ⟨G, 4, none⟩ (.int .i64 i)).setCell ⟨G, 5, none⟩ (.int .i64 (z : Int))) := stD_below HZ.out (by omega) (on : Int) d' (-1) f' i (z : Int)
            have CK9 : (((((((wr13.setCell ⟨G, 0, none⟩ (.int .i64 (on : Int))).setCell ⟨G, 1, none⟩ (.int .i64 d')).setCell ⟨G, 2, none⟩ (.int .i64 (-1))).setCell ⟨G, 3, none⟩ (.int .i64 f')).setCell ⟨G, 4, none⟩ (.int .i64 i)).setCell ⟨G, 5, none⟩ (.int .i64 (z : Int)))).cell? ⟨L, k1, none⟩ = some (.string x) := (World.cell?_setCell_other _ _ _ _ (by intro e; injection e; omega)).trans ((World.cell?_setCell_other _ _ _ _ (by intro e; injection e; omega)).trans ((World.cell?_setCell_other _ _ _ _ (by intro e; injection e; omega)).trans ((World.cell?_setCell_other _ _ _ _ (by intro e; injection e; omega)).trans ((World.cell?_setCell_other _ _ _ _ (by intro e; injection e; omega)).trans ((World.cell?_setCell_other _ _ _ _ (by intro e; injection e; omega)).trans CK.out)))))
            clear HX HSL HB H8 HZ CK
            generalize ((((((wr13.setCell ⟨G, 0, none⟩ (.int .i64 (on : Int))).setCell ⟨G, 1, none⟩ (.int .i64 d')).setCell ⟨G, 2, none⟩ (.int .i64 (-1))).setCell ⟨G, 3, none⟩ (.int .i64 f')).setCell ⟨G, 4, none⟩ (.int .i64 i)).setCell ⟨G, 5, none⟩ (.int .i64 (z : Int))) = wr14 at *
            have HX := hid HX9
            have HSL := hid HSL9
            have HB := hid HB9
            have H8 := hid H89
            have HZ := hid HZ9
            have CK := hid CK9
            clear HX9 HSL9 HB9 H89 HZ9 CK9
            refine hK.out _ _ ?hS61 (fun hHeld => ?re61)
            case hS61 => exact ⟨HB.out.c0, HB.out.c1, HB.out.c2, HB.out.c3, HB.out.c4, HB.out.c5, CK.out⟩
            clear hK K
            (try simp only [Act.put, List.setIfInBounds_toArray, List.set_cons_zero, List.set_cons_succ])
            refine wpAnyH_take (i := 15) (oi := ?oi62) (v := ?v62) (fuel := 0) ?hi62 ?hs62 ?hf62 ?hr62 ?hq62 (Or.inl ⟨?hw62, ?hy62⟩) hHeld ?rest62
            case hi62 => rw [List.getElem?_toArray]; rfl
            case hq62 => exact fun _ _ _ h => h
            case hs62 | hf62 | hr62 => kernel_rfl
            case hw62 => rfl
            case hy62 => (intro w1 hSw; (try dsimp only at hSw); go_simp; try with_reducible rfl)
            (try simp only [Act.put, List.setIfInBounds_toArray, List.set_cons_zero, List.set_cons_succ])
            refine wpAnyH_done (by kernel_rfl) ?_ _
            clear hHeld hbk hw6
            obtain ⟨e0, e1, e2, e3, e4, e5, el, ef⟩ := H8.out
            obtain ⟨b0, b1, b2, b3, b4, b5, bl, bf⟩ := HB.out
            go_wp2_with fail
            go_roundw
            case rel => exact ⟨k + 1, d', (-1), f', i, by omega, by go_num, hid (stD_below HZ.out (by omega) (on : Int) d' (-1) f' i (z : Int)), hid (D6.stO HX.out (by omega) (on : Int) d' (-1) f' i (z : Int)), hid (SL.stO HSL.out (by omega) (on : Int) d' (-1) f' i (z : Int)), hid (D6.st HB.out (on : Int) d' (-1) f' i (z : Int)), hid HCN.out⟩
            case measure => simp [intOf]; omega
          refine AllReadyH.cons (o := ?oi63) ?hi63 (fun K hK => ?st63) ?mo63
          case hi63 => rw [List.getElem?_toArray]; rfl
          case st63 =>
            go_simp
            have H8 := hid (D6.new W1 0 0 0 0 0 0 24)
            have bA := belA W1 (.cells #[.int .i64 0, .int .i64 0, .int .i64 0, .int .i64 0, .int .i64 0, .int .i64 0] 24)
            have lG1 := HX.out.lt
            have lG2 := HB.out.lt
            have lG3 := HSL.out.1
            replace HX := hid (HX.out.bel bA)
            replace CK := hid ((bA.cell (p := ⟨L, k1, none⟩) HSL.out.1).trans CK.out)
            replace HSL := hid (HSL.out.below bA)
            replace HB := hid (HB.out.bel bA)
            replace HZ := hid (HZ.out.to bA)
            clear bA
            generalize W1.alloc (.cells #[.int .i64 0, .int .i64 0, .int .i64 0, .int .i64 0, .int .i64 0, .int .i64 0] 24) = wr13 at *
            generalize W1.heap.size = G at *
            refine hK.out _ _ ?hS63 (fun hHeld => ?re63)
            case hS63 => exact ⟨HB.out.c0, HB.out.c1, HB.out.c2, HB.out.c3, HB.out.c4, HB.out.c5, CK.out⟩
            clear hK K
            (try simp only [Act.put, List.setIfInBounds_toArray, List.set_cons_zero, List.set_cons_succ])
            refine wpAnyH_ready (fuel := 5) (rs := [9]) (by kernel_rfl) (by simp) ?_
            refine AllReadyH.cons (o := ?oi64) ?hi64 (fun K hK => ?st64) AllReadyH.nil
            case hi64 => rw [List.getElem?_toArray]; rfl
            go_simp
            refine (gx0 _ _ _ _ _ _ x (by omega) i HRG.out HRN.out _ (HT.out.below HZ.out)).mono ?_
            rintro ee wr9 ⟨rfl, bq⟩
            replace HX := hid (HX.out.bel bq)
            replace CK := hid ((bq.cell (p := ⟨L, k1, none⟩) HSL.out.1).trans CK.out)
            replace HSL := hid (HSL.out.below bq)
            replace HB := hid (HB.out.bel bq)
            replace H8 := hid (H8.out.bel bq)
            replace HZ := hid (HZ.out.to bq)
            clear bq
            go_wp2_with fail
            refine hK.out _ _ ?hS64 (fun hHeld => ?re64)
            case hS64 => exact ⟨HB.out.c0, HB.out.c1, HB.out.c2, HB.out.c3, HB.out.c4, HB.out.c5, CK.out⟩
            clear hK K
            (try simp only [Act.put, List.setIfInBounds_toArray, List.set_cons_zero, List.set_cons_succ])
            refine wpAnyH_take (i := 10) (oi := ?oi65) (v := ?v65) (fuel := 4) ?hi65 ?hs65 ?hf65 ?hr65 ?hq65 (Or.inl ⟨?hw65, ?hy65⟩) hHeld ?rest65
            case hi65 => rw [List.getElem?_toArray]; rfl
            case hq65 => exact fun _ _ _ h => h
            case hs65 | hf65 | hr65 => kernel_rfl
            case hw65 => rfl
            case hy65 => (intro w1 hSw; (try dsimp only at hSw); go_simp; try with_reducible rfl)
            (try simp only [Act.put, List.setIfInBounds_toArray, List.set_cons_zero, List.set_cons_succ])
            refine wpAnyH_take (i := 11) (oi := ?oi66) (v := ?v66) (fuel := 3) ?hi66 ?hs66 ?hf66 ?hr66 ?hq66 (Or.inl ⟨?hw66, ?hy66⟩) hHeld ?rest66
            case hi66 => rw [List.getElem?_toArray]; rfl
            case hq66 => exact fun _ _ _ h => h
            case hs66 | hf66 | hr66 => kernel_rfl
            case hw66 => rfl
            case hy66 => (intro w1 hSw; (try dsimp only at hSw); go_simp; try with_reducible rfl)
            (try simp only [Act.put, List.setIfInBounds_toArray, List.set_cons_zero, List.set_cons_succ])
            refine wpAnyH_take (i := 12) (oi := ?oi67) (v := ?v67) (fuel := 2) ?hi67 ?hs67 ?hf67 ?hr67 ?hq67 (Or.inl ⟨?hw67, ?hy67⟩) hHeld ?rest67
            case hi67 => rw [List.getElem?_toArray]; rfl
            case hq67 => exact fun _ _ _ h => h
            case hs67 | hf67 | hr67 => kernel_rfl
            case hw67 => rfl
            case hy67 => (intro w1 hSw; (try dsimp only at hSw); go_simp; try with_reducible rfl)
            (try simp only [Act.put, List.setIfInBounds_toArray, List.set_cons_zero, List.set_cons_succ])
            refine wpAnyH_ready (fuel := 1) (rs := [14]) (by kernel_rfl) (by simp) ?_
            refine AllReadyH.cons (o := ?oi68) ?hi68 (fun K hK => ?st68) AllReadyH.nil
            case hi68 => rw [List.getElem?_toArray]; rfl
            obtain ⟨e0, e1, e2, e3, e4, e5, el, ef⟩ := H8.out
            go_simp
            clear e0 e1 e2 e3 e4 e5 el ef
            have HX9 : D6 ((((((wr9.setCell ⟨G, 0, none⟩ (.int .i64 (on : Int))).setCell ⟨G, 1, none⟩ (.int .i64 d')).setCell ⟨G, 2, none⟩ (.int .i64 (-1))).setCell ⟨G, 3, none⟩ (.int .i64 f')).setCell ⟨G, 4, none⟩ (.int .i64 i)).setCell ⟨G, 5, none⟩ (.int .i64 (z : Int))) w.heap.size 0 0 0 0 0 0 := D6.stO HX.out (by omega) (on : Int) d' (-1) f' i (z : Int)
            have HSL9 : SL ((((((wr9.setCell ⟨G, 0, none⟩ (.int .i64 (on : Int))).setCell ⟨G, 1, none⟩ (.int .i64 d')).setCell ⟨G, 2, none⟩ (.int .i64 (-1))).setCell ⟨G, 3, none⟩ (.int .i64 f')).setCell ⟨G, 4, none⟩ (.int .i64 i)).setCell ⟨G, 5, none⟩ (.int .i64 (z : Int))) L W := SL.stO HSL.out (by omega) (on : Int) d' (-1) f' i (z : Int)
            have HB9 : D6 ((((((wr9.setCell ⟨G, 0, none⟩ (.int .i64 (on : Int))).setCell ⟨G, 1, none⟩ (.int .i64 d')).setCell ⟨G, 2, none⟩ (.int .i64 (-1))).setCell ⟨G, 3, none⟩ (.int .i64 f')).setCell ⟨G, 4, none⟩ (.int .i64 i)).setCell ⟨G, 5, none⟩ (.int .i64 (z : Int))) B (on : Int) d' s' f' i' (z : Int) := D6.stO HB.out (by omega) (on : Int) d' (-1) f' i (z : Int)
            have H89 : D6 ((((((wr9.setCell ⟨G, 0, none⟩ (.int .i64 (on : Int))).setCell ⟨G, 1, none⟩ (.int .i64 d')).setCell ⟨G, 2, none⟩ (.int .i64 (-1))).setCell ⟨G, 3, none⟩ (.int .i64 f')).setCell ⟨G, 4, none⟩ (.int .i64 i)).setCell ⟨G, 5, none⟩ (.int .i64 (z : Int))) G (on : Int) d' (-1) f' i (z : Int) := D6.st H8.out (on : Int) d' (-1) f' i (z : Int)
            have HZ9 : Below w.heap.size w ((((((wr9.setCell ⟨G, 0, none⟩ (.int .i64 (on : Int))).setCell ⟨G, 1, none⟩ (.int .i64 d')).setCell ⟨G, 2, none⟩ (.int .i64 (-1))).setCell ⟨G, 3, none⟩ (.int .i64 f')).setCell ⟨G, 4, none⟩ (.int .i64 i)).setCell ⟨G, 5, none⟩ (.int .i64 (z : Int))) := stD_below HZ.out (by omega) (on : Int) d' (-1) f' i (z : Int)
            have CK9 : (((((((wr9.setCell ⟨G, 0, none⟩ (.int .i64 (on : Int))).setCell ⟨G, 1, none⟩ (.int .i64 d')).setCell ⟨G, 2, none⟩ (.int .i64 (-1))).setCell ⟨G, 3, none⟩ (.int .i64 f')).setCell ⟨G, 4, none⟩ (.int .i64 i)).setCell ⟨G, 5, none⟩ (.int .i64 (z : Int)))).cell? ⟨L, k1, none⟩ = some (.string x) := (World.cell?_setCell_other _ _ _ _ (by intro e; injection e; omega)).trans ((World.cell?_setCell_other _ _ _ _ (by intro e; injection e; omega)).trans ((World.cell?_setCell_other _ _ _ _ (by intro e; injection e; omega)).trans ((World.cell?_setCell_other _ _ _ _ (by intro e; injection e; omega)).trans ((World.cell?_setCell_other _ _ _ _ (by intro e; injection e; omega)).trans ((World.cell?_setCell_other _ _ _ _ (by intro e; injection e; omega)).trans CK.out)))))
            clear HX HSL HB H8 HZ CK
            generalize ((((((wr9.setCell ⟨G, 0, none⟩ (.int .i64 (on : Int))).setCell ⟨G, 1, none⟩ (.int .i64 d')).setCell ⟨G, 2, none⟩ (.int .i64 (-1))).setCell ⟨G, 3, none⟩ (.int .i64 f')).setCell ⟨G, 4, none⟩ (.int .i64 i)).setCell ⟨G, 5, none⟩ (.int .i64 (z : Int))) = wr14 at *
            have HX := hid HX9
            have HSL := hid HSL9
            have HB := hid HB9
            have H8 := hid H89
            have HZ := hid HZ9
            have CK := hid CK9
            clear HX9 HSL9 HB9 H89 HZ9 CK9
            refine hK.out _ _ ?hS68 (fun hHeld => ?re68)
            case hS68 => exact ⟨HB.out.c0, HB.out.c1, HB.out.c2, HB.out.c3, HB.out.c4, HB.out.c5, CK.out⟩
            clear hK K
            (try simp only [Act.put, List.setIfInBounds_toArray, List.set_cons_zero, List.set_cons_succ])
            refine wpAnyH_take (i := 15) (oi := ?oi69) (v := ?v69) (fuel := 0) ?hi69 ?hs69 ?hf69 ?hr69 ?hq69 (Or.inl ⟨?hw69, ?hy69⟩) hHeld ?rest69
            case hi69 => rw [List.getElem?_toArray]; rfl
            case hq69 => exact fun _ _ _ h => h
            case hs69 | hf69 | hr69 => kernel_rfl
            case hw69 => rfl
            case hy69 => (intro w1 hSw; (try dsimp only at hSw); go_simp; try with_reducible rfl)
            (try simp only [Act.put, List.setIfInBounds_toArray, List.set_cons_zero, List.set_cons_succ])
            refine wpAnyH_done (by kernel_rfl) ?_ _
            clear hHeld hbk hw6
            obtain ⟨e0, e1, e2, e3, e4, e5, el, ef⟩ := H8.out
            obtain ⟨b0, b1, b2, b3, b4, b5, bl, bf⟩ := HB.out
            go_wp2_with fail
            go_roundw
            case rel => exact ⟨k + 1, d', (-1), f', i, by omega, by go_num, hid (stD_below HZ.out (by omega) (on : Int) d' (-1) f' i (z : Int)), hid (D6.stO HX.out (by omega) (on : Int) d' (-1) f' i (z : Int)), hid (SL.stO HSL.out (by omega) (on : Int) d' (-1) f' i (z : Int)), hid (D6.st HB.out (on : Int) d' (-1) f' i (z : Int)), hid HCN.out⟩
            case measure => simp [intOf]; omega
          exact AllReadyH.nil
      · have hxw : x = decI f := by rw [HXE.out, hp]; rfl
        have HRG : Hid (atoiP x = (f, true)) := hid (by rw [hxw]; exact atoi_dec f (by omega) (by omega))
        clear hxw
        have HCN := hid (cand_f hlt HC.out hp)
        have CK := hid ck
        have hltp : k < pb.size := by have := HPBS.out; omega
        have hbk : (pb[k]'hltp).toNat = 111 := by have := hbyte; simpa [hp] using this
        go_wp2_with fail
        refine wp_region_held_drew (S := (fun w' => w'.cell? ⟨B, 0, none⟩ = some (.int .i64 (on : Int)) ∧ w'.cell? ⟨B, 1, none⟩ = some (.int .i64 d') ∧ w'.cell? ⟨B, 2, none⟩ = some (.int .i64 s') ∧ w'.cell? ⟨B, 3, none⟩ = some (.int .i64 f') ∧ w'.cell? ⟨B, 4, none⟩ = some (.int .i64 i') ∧ w'.cell? ⟨B, 5, none⟩ = some (.int .i64 (z : Int)) ∧ w'.cell? ⟨L, k1, none⟩ = some (.string x))) (by kernel_rfl) (by exact ⟨HB.out.c0, HB.out.c1, HB.out.c2, HB.out.c3, HB.out.c4, HB.out.c5, ck⟩) (fun hHeld => ?_)
        have bd : Below wr.heap.size wr wr.drew := (Below.refl _ _).drew
        clear ck
        replace HX := hid (HX.out.bel bd)
        replace CK := hid ((bd.cell (p := ⟨L, k1, none⟩) HSL.out.1).trans CK.out)
        replace HSL := hid (HSL.out.below bd)
        replace HB := hid (HB.out.bel bd)
        replace HZ := hid (HZ.out.to bd)
        clear bd
        generalize wr.drew = W1 at *
        refine wpAnyH_take (i := 0) (oi := ?oi70) (v := ?v70) (fuel := 15) ?hi70 ?hs70 ?hf70 ?hr70 ?hq70 (Or.inl ⟨?hw70, ?hy70⟩) hHeld ?rest70
        case hi70 => rw [List.getElem?_toArray]; rfl
        case hq70 => exact fun _ _ _ h => h
        case hs70 | hf70 | hr70 => kernel_rfl
        case hw70 => rfl
        case hy70 => (intro w1 hSw; (try dsimp only at hSw); go_simp; try with_reducible rfl)
        (try simp only [Act.put, List.setIfInBounds_toArray, List.set_cons_zero, List.set_cons_succ])
        refine wpAnyH_take (i := 1) (oi := ?oi71) (v := ?v71) (fuel := 14) ?hi71 ?hs71 ?hf71 ?hr71 ?hq71 (Or.inl ⟨?hw71, ?hy71⟩) hHeld ?rest71
        case hi71 => rw [List.getElem?_toArray]; rfl
        case hq71 => exact fun _ _ _ h => h
        case hs71 | hf71 | hr71 => kernel_rfl
        case hw71 => rfl
        case hy71 => (intro w1 hSw; (try dsimp only at hSw); go_simp; try with_reducible rfl)
        (try simp only [Act.put, List.setIfInBounds_toArray, List.set_cons_zero, List.set_cons_succ])
        refine wpAnyH_take (i := 2) (oi := ?oi72) (v := ?v72) (fuel := 13) ?hi72 ?hs72 ?hf72 ?hr72 ?hq72 (Or.inl ⟨?hw72, ?hy72⟩) hHeld ?rest72
        case hi72 => rw [List.getElem?_toArray]; rfl
        case hq72 => exact fun _ _ _ h => h
        case hs72 | hf72 | hr72 => kernel_rfl
        case hw72 => rfl
        case hy72 => (intro w1 hSw; (try dsimp only at hSw); go_simp; try with_reducible rfl)
        (try simp only [Act.put, List.setIfInBounds_toArray, List.set_cons_zero, List.set_cons_succ])
        refine wpAnyH_take (i := 3) (oi := ?oi73) (v := .int .u8 111) (fuel := 12) ?hi73 ?hs73 ?hf73 ?hr73 ?hq73 (Or.inl ⟨?hw73, ?hy73⟩) hHeld ?rest73
        case hi73 => rw [List.getElem?_toArray]; rfl
        case hq73 => exact fun _ _ _ h => h
        case hs73 | hf73 | hr73 => kernel_rfl
        case hw73 => rfl
        case hy73 => (intro w1 hSw; (try dsimp only at hSw); go_simp; try (first | rfl | simp [hbk]))
        (try simp only [Act.put, List.setIfInBounds_toArray, List.set_cons_zero, List.set_cons_succ])
        refine wpAnyH_take (i := 4) (oi := ?oi74) (v := ?v74) (fuel := 11) ?hi74 ?hs74 ?hf74 ?hr74 ?hq74 (Or.inl ⟨?hw74, ?hy74⟩) hHeld ?rest74
        case hi74 => rw [List.getElem?_toArray]; rfl
        case hq74 => exact fun _ _ _ h => h
        case hs74 | hf74 | hr74 => kernel_rfl
        case hw74 => rfl
        case hy74 => (intro w1 hSw; (try dsimp only at hSw); go_simp; try with_reducible rfl)
        (try simp only [Act.put, List.setIfInBounds_toArray, List.set_cons_zero, List.set_cons_succ])
        refine wpAnyH_take (i := 5) (oi := ?oi75) (v := ?v75) (fuel := 10) ?hi75 ?hs75 ?hf75 ?hr75 ?hq75 (Or.inl ⟨?hw75, ?hy75⟩) hHeld ?rest75
        case hi75 => rw [List.getElem?_toArray]; rfl
        case hq75 => exact fun _ _ _ h => h
        case hs75 | hf75 | hr75 => kernel_rfl
        case hw75 => rfl
        case hy75 => (intro w1 hSw; (try dsimp only at hSw); go_simp; try with_reducible rfl)
        (try simp only [Act.put, List.setIfInBounds_toArray, List.set_cons_zero, List.set_cons_succ])
        refine wpAnyH_take (i := 6) (oi := ?oi76) (v := .int .i64 (k1 : Int)) (fuel := 9) ?hi76 ?hs76 ?hf76 ?hr76 ?hq76 (Or.inl ⟨?hw76, ?hy76⟩) hHeld ?rest76
        case hi76 => rw [List.getElem?_toArray]; rfl
        case hq76 => exact fun _ _ _ h => h
        case hs76 | hf76 | hr76 => kernel_rfl
        case hw76 => rfl
        case hy76 => (intro w1 hSw; (try dsimp only at hSw); go_simp; try simp [hw6])
        (try simp only [Act.put, List.setIfInBounds_toArray, List.set_cons_zero, List.set_cons_succ])
        refine wpAnyH_take (i := 7) (oi := ?oi77) (v := ?v77) (fuel := 8) ?hi77 ?hs77 ?hf77 ?hr77 ?hq77 (Or.inl ⟨?hw77, ?hy77⟩) hHeld ?rest77
        case hi77 => rw [List.getElem?_toArray]; rfl
        case hq77 => exact fun _ _ _ h => h
        case hs77 | hf77 | hr77 => kernel_rfl
        case hw77 => rfl
        case hy77 => (intro w1 hSw; (try dsimp only at hSw); go_simp; try with_reducible rfl)
        (try simp only [Act.put, List.setIfInBounds_toArray, List.set_cons_zero, List.set_cons_succ])
        refine wpAnyH_take (i := 8) (oi := ?oi78) (v := ?v78) (fuel := 7) ?hi78 ?hs78 ?hf78 ?hr78 ?hq78 (Or.inl ⟨?hw78, ?hy78⟩) hHeld ?rest78
        case hi78 => rw [List.getElem?_toArray]; rfl
        case hq78 => exact fun _ _ _ h => h
        case hs78 | hf78 | hr78 => kernel_rfl
        case hw78 => rfl
        case hy78 => (intro w1 hSw; (try dsimp only at hSw); go_simp; try with_reducible rfl)
        (try simp only [Act.put, List.setIfInBounds_toArray, List.set_cons_zero, List.set_cons_succ])
        refine wpAnyH_ready (fuel := 6) (rs := [9, 13]) (by kernel_rfl) (by simp) ?_
        refine AllReadyH.cons (o := ?oi79) ?hi79 (fun K hK => ?st79) ?mo79
        case hi79 => rw [List.getElem?_toArray]; rfl
        case st79 =>
          go_simp
          refine (go_ _ _ _ _ _ _ x (by omega) f HRG.out _ (HT.out.below HZ.out)).mono ?_
          rintro ee wr9 ⟨rfl, bq⟩
          replace HX := hid (HX.out.bel bq)
          replace CK := hid ((bq.cell (p := ⟨L, k1, none⟩) HSL.out.1).trans CK.out)
          replace HSL := hid (HSL.out.below bq)
          replace HB := hid (HB.out.bel bq)
          replace HZ := hid (HZ.out.to bq)
          clear bq
          go_wp2_with fail
          refine hK.out _ _ ?hS79 (fun hHeld => ?re79)
          case hS79 => exact ⟨HB.out.c0, HB.out.c1, HB.out.c2, HB.out.c3, HB.out.c4, HB.out.c5, CK.out⟩
          clear hK K
          (try simp only [Act.put, List.setIfInBounds_toArray, List.set_cons_zero, List.set_cons_succ])
          refine wpAnyH_take (i := 10) (oi := ?oi80) (v := ?v80) (fuel := 5) ?hi80 ?hs80 ?hf80 ?hr80 ?hq80 (Or.inl ⟨?hw80, ?hy80⟩) hHeld ?rest80
          case hi80 => rw [List.getElem?_toArray]; rfl
          case hq80 => exact fun _ _ _ h => h
          case hs80 | hf80 | hr80 => kernel_rfl
          case hw80 => rfl
          case hy80 => (intro w1 hSw; (try dsimp only at hSw); go_simp; try with_reducible rfl)
          (try simp only [Act.put, List.setIfInBounds_toArray, List.set_cons_zero, List.set_cons_succ])
          refine wpAnyH_take (i := 11) (oi := ?oi81) (v := ?v81) (fuel := 4) ?hi81 ?hs81 ?hf81 ?hr81 ?hq81 (Or.inl ⟨?hw81, ?hy81⟩) hHeld ?rest81
          case hi81 => rw [List.getElem?_toArray]; rfl
          case hq81 => exact fun _ _ _ h => h
          case hs81 | hf81 | hr81 => kernel_rfl
          case hw81 => rfl
          case hy81 => (intro w1 hSw; (try dsimp only at hSw); go_simp; try with_reducible rfl)
          (try simp only [Act.put, List.setIfInBounds_toArray, List.set_cons_zero, List.set_cons_succ])
          refine wpAnyH_take (i := 12) (oi := ?oi82) (v := ?v82) (fuel := 3) ?hi82 ?hs82 ?hf82 ?hr82 ?hq82 (Or.inl ⟨?hw82, ?hy82⟩) hHeld ?rest82
          case hi82 => rw [List.getElem?_toArray]; rfl
          case hq82 => exact fun _ _ _ h => h
          case hs82 | hf82 | hr82 => kernel_rfl
          case hw82 => rfl
          case hy82 => (intro w1 hSw; (try dsimp only at hSw); go_simp; try with_reducible rfl)
          (try simp only [Act.put, List.setIfInBounds_toArray, List.set_cons_zero, List.set_cons_succ])
          refine wpAnyH_ready (fuel := 2) (rs := [13]) (by kernel_rfl) (by simp) ?_
          refine AllReadyH.cons (o := ?oi83) ?hi83 (fun K hK => ?st83) AllReadyH.nil
          case hi83 => rw [List.getElem?_toArray]; rfl
          go_simp
          have H8 := hid (D6.new wr9 0 0 0 0 0 0 24)
          have bA := belA wr9 (.cells #[.int .i64 0, .int .i64 0, .int .i64 0, .int .i64 0, .int .i64 0, .int .i64 0] 24)
          have lG1 := HX.out.lt
          have lG2 := HB.out.lt
          have lG3 := HSL.out.1
          replace HX := hid (HX.out.bel bA)
          replace CK := hid ((bA.cell (p := ⟨L, k1, none⟩) HSL.out.1).trans CK.out)
          replace HSL := hid (HSL.out.below bA)
          replace HB := hid (HB.out.bel bA)
          replace HZ := hid (HZ.out.to bA)
          clear bA
          generalize wr9.alloc (.cells #[.int .i64 0, .int .i64 0, .int .i64 0, .int .i64 0, .int .i64 0, .int .i64 0] 24) = wr13 at *
          generalize wr9.heap.size = G at *
          refine hK.out _ _ ?hS83 (fun hHeld => ?re83)
          case hS83 => exact ⟨HB.out.c0, HB.out.c1, HB.out.c2, HB.out.c3, HB.out.c4, HB.out.c5, CK.out⟩
          clear hK K
          (try simp only [Act.put, List.setIfInBounds_toArray, List.set_cons_zero, List.set_cons_succ])
          refine wpAnyH_ready (fuel := 1) (rs := [14]) (by kernel_rfl) (by simp) ?_
          refine AllReadyH.cons (o := ?oi84) ?hi84 (fun K hK => ?st84) AllReadyH.nil
          case hi84 => rw [List.getElem?_toArray]; rfl
          obtain ⟨e0, e1, e2, e3, e4, e5, el, ef⟩ := H8.out
          go_simp
          clear e0 e1 e2 e3 e4 e5 el ef
          have HX9 : D6 ((((((wr13.setCell ⟨G, 0, none⟩ (.int .i64 (on : Int))).setCell ⟨G, 1, none⟩ (.int .i64 d')).setCell ⟨G, 2, none⟩ (.int .i64 s')).setCell ⟨G, 3, none⟩ (.int .i64 f)).setCell ⟨G, 4, none⟩ (.int .i64 i')).setCell ⟨G, 5, none⟩ (.int .i64 (z : Int))) w.heap.size 0 0 0 0 0 0 := D6.stO HX.out (by omega) (on : Int) d' s' f i' (z : Int)
          have HSL9 : SL ((((((wr13.setCell ⟨G, 0, none⟩ (.int .i64 (on : Int))).setCell ⟨G, 1, none⟩ (.int .i64 d')).setCell ⟨G, 2, none⟩ (.int .i64 s')).setCell ⟨G, 3, none⟩ (.int .i64 f)).setCell ⟨G, 4, none⟩ (.int .i64 i')).setCell ⟨G, 5, none⟩ (.int .i64 (z : Int))) L W := SL.stO HSL.out (by omega) (on : Int) d' s' f i' (z : Int)
          have HB9 : D6 ((((((wr13.setCell ⟨G, 0, none⟩ (.int .i64 (on : Int))).setCell ⟨G, 1, none⟩ (.int .i64 d')).setCell ⟨G, 2, none⟩ (.int .i64 s')).setCell ⟨G, 3, none⟩ (.int .i64 f)).setCell ⟨G, 4, none⟩ (.int .i64 i')).setCell ⟨G, 5, none⟩ (.int .i64 (z : Int))) B (on : Int) d' s' f' i' (z : Int) := D6.stO HB.out (by omega) (on : Int) d' s' f i' (z : Int)
          have H89 : D6 ((((((wr13.setCell ⟨G, 0, none⟩ (.int .i64 (on : Int))).setCell ⟨G, 1, none⟩ (.int .i64 d')).setCell ⟨G, 2, none⟩ (.int .i64 s')).setCell ⟨G, 3, none⟩ (.int .i64 f)).setCell ⟨G, 4, none⟩ (.int .i64 i')).setCell ⟨G, 5, none⟩ (.int .i64 (z : Int))) G (on : Int) d' s' f i' (z : Int) := D6.st H8.out (on : Int) d' s' f i' (z : Int)
          have HZ9 : Below w.heap.size w ((((((wr13.setCell ⟨G, 0, none⟩ (.int .i64 (on : Int))).setCell ⟨G, 1, none⟩ (.int .i64 d')).setCell ⟨G, 2, none⟩ (.int .i64 s')).setCell ⟨G, 3, none⟩ (.int .i64 f)).setCell ⟨G, 4, none⟩ (.int .i64 i')).setCell ⟨G, 5, none⟩ (.int .i64 (z : Int))) := stD_below HZ.out (by omega) (on : Int) d' s' f i' (z : Int)
          have CK9 : (((((((wr13.setCell ⟨G, 0, none⟩ (.int .i64 (on : Int))).setCell ⟨G, 1, none⟩ (.int .i64 d')).setCell ⟨G, 2, none⟩ (.int .i64 s')).setCell ⟨G, 3, none⟩ (.int .i64 f)).setCell ⟨G, 4, none⟩ (.int .i64 i')).setCell ⟨G, 5, none⟩ (.int .i64 (z : Int)))).cell? ⟨L, k1, none⟩ = some (.string x) := (World.cell?_setCell_other _ _ _ _ (by intro e; injection e; omega)).trans ((World.cell?_setCell_other _ _ _ _ (by intro e; injection e; omega)).trans ((World.cell?_setCell_other _ _ _ _ (by intro e; injection e; omega)).trans ((World.cell?_setCell_other _ _ _ _ (by intro e; injection e; omega)).trans ((World.cell?_setCell_other _ _ _ _ (by intro e; injection e; omega)).trans ((World.cell?_setCell_other _ _ _ _ (by intro e; injection e; omega)).trans CK.out)))))
          clear HX HSL HB H8 HZ CK
          generalize ((((((wr13.setCell ⟨G, 0, none⟩ (.int .i64 (on : Int))).setCell ⟨G, 1, none⟩ (.int .i64 d')).setCell ⟨G, 2, none⟩ (.int .i64 s')).setCell ⟨G, 3, none⟩ (.int .i64 f)).setCell ⟨G, 4, none⟩ (.int .i64 i')).setCell ⟨G, 5, none⟩ (.int .i64 (z : Int))) = wr14 at *
          have HX := hid HX9
          have HSL := hid HSL9
          have HB := hid HB9
          have H8 := hid H89
          have HZ := hid HZ9
          have CK := hid CK9
          clear HX9 HSL9 HB9 H89 HZ9 CK9
          refine hK.out _ _ ?hS84 (fun hHeld => ?re84)
          case hS84 => exact ⟨HB.out.c0, HB.out.c1, HB.out.c2, HB.out.c3, HB.out.c4, HB.out.c5, CK.out⟩
          clear hK K
          (try simp only [Act.put, List.setIfInBounds_toArray, List.set_cons_zero, List.set_cons_succ])
          refine wpAnyH_take (i := 15) (oi := ?oi85) (v := ?v85) (fuel := 0) ?hi85 ?hs85 ?hf85 ?hr85 ?hq85 (Or.inl ⟨?hw85, ?hy85⟩) hHeld ?rest85
          case hi85 => rw [List.getElem?_toArray]; rfl
          case hq85 => exact fun _ _ _ h => h
          case hs85 | hf85 | hr85 => kernel_rfl
          case hw85 => rfl
          case hy85 => (intro w1 hSw; (try dsimp only at hSw); go_simp; try with_reducible rfl)
          (try simp only [Act.put, List.setIfInBounds_toArray, List.set_cons_zero, List.set_cons_succ])
          refine wpAnyH_done (by kernel_rfl) ?_ _
          clear hHeld hbk hw6
          obtain ⟨e0, e1, e2, e3, e4, e5, el, ef⟩ := H8.out
          obtain ⟨b0, b1, b2, b3, b4, b5, bl, bf⟩ := HB.out
          go_wp2_with fail
          go_roundw
          case rel => exact ⟨k + 1, d', s', f, i', by omega, by go_num, hid (stD_below HZ.out (by omega) (on : Int) d' s' f i' (z : Int)), hid (D6.stO HX.out (by omega) (on : Int) d' s' f i' (z : Int)), hid (SL.stO HSL.out (by omega) (on : Int) d' s' f i' (z : Int)), hid (D6.st HB.out (on : Int) d' s' f i' (z : Int)), hid HCN.out⟩
          case measure => simp [intOf]; omega
        refine AllReadyH.cons (o := ?oi86) ?hi86 (fun K hK => ?st86) ?mo86
        case hi86 => rw [List.getElem?_toArray]; rfl
        case st86 =>
          go_simp
          have H8 := hid (D6.new W1 0 0 0 0 0 0 24)
          have bA := belA W1 (.cells #[.int .i64 0, .int .i64 0, .int .i64 0, .int .i64 0, .int .i64 0, .int .i64 0] 24)
          have lG1 := HX.out.lt
          have lG2 := HB.out.lt
          have lG3 := HSL.out.1
          replace HX := hid (HX.out.bel bA)
          replace CK := hid ((bA.cell (p := ⟨L, k1, none⟩) HSL.out.1).trans CK.out)
          replace HSL := hid (HSL.out.below bA)
          replace HB := hid (HB.out.bel bA)
          replace HZ := hid (HZ.out.to bA)
          clear bA
          generalize W1.alloc (.cells #[.int .i64 0, .int .i64 0, .int .i64 0, .int .i64 0, .int .i64 0, .int .i64 0] 24) = wr13 at *
          generalize W1.heap.size = G at *
          refine hK.out _ _ ?hS86 (fun hHeld => ?re86)
          case hS86 => exact ⟨HB.out.c0, HB.out.c1, HB.out.c2, HB.out.c3, HB.out.c4, HB.out.c5, CK.out⟩
          clear hK K
          (try simp only [Act.put, List.setIfInBounds_toArray, List.set_cons_zero, List.set_cons_succ])
          refine wpAnyH_ready (fuel := 5) (rs := [9]) (by kernel_rfl) (by simp) ?_
          refine AllReadyH.cons (o := ?oi87) ?hi87 (fun K hK => ?st87) AllReadyH.nil
          case hi87 => rw [List.getElem?_toArray]; rfl
          go_simp
          refine (go_ _ _ _ _ _ _ x (by omega) f HRG.out _ (HT.out.below HZ.out)).mono ?_
          rintro ee wr9 ⟨rfl, bq⟩
          replace HX := hid (HX.out.bel bq)
          replace CK := hid ((bq.cell (p := ⟨L, k1, none⟩) HSL.out.1).trans CK.out)
          replace HSL := hid (HSL.out.below bq)
          replace HB := hid (HB.out.bel bq)
          replace H8 := hid (H8.out.bel bq)
          replace HZ := hid (HZ.out.to bq)
          clear bq
          go_wp2_with fail
          refine hK.out _ _ ?hS87 (fun hHeld => ?re87)
          case hS87 => exact ⟨HB.out.c0, HB.out.c1, HB.out.c2, HB.out.c3, HB.out.c4, HB.out.c5, CK.out⟩
          clear hK K
          (try simp only [Act.put, List.setIfInBounds_toArray, List.set_cons_zero, List.set_cons_succ])
          refine wpAnyH_take (i := 10) (oi := ?oi88) (v := ?v88) (fuel := 4) ?hi88 ?hs88 ?hf88 ?hr88 ?hq88 (Or.inl ⟨?hw88, ?hy88⟩) hHeld ?rest88
          case hi88 => rw [List.getElem?_toArray]; rfl
          case hq88 => exact fun _ _ _ h => h
          case hs88 | hf88 | hr88 => kernel_rfl
          case hw88 => rfl
          case hy88 => (intro w1 hSw; (try dsimp only at hSw); go_simp; try with_reducible rfl)
          (try simp only [Act.put, List.setIfInBounds_toArray, List.set_cons_zero, List.set_cons_succ])
          refine wpAnyH_take (i := 11) (oi := ?oi89) (v := ?v89) (fuel := 3) ?hi89 ?hs89 ?hf89 ?hr89 ?hq89 (Or.inl ⟨?hw89, ?hy89⟩) hHeld ?rest89
          case hi89 => rw [List.getElem?_toArray]; rfl
          case hq89 => exact fun _ _ _ h => h
          case hs89 | hf89 | hr89 => kernel_rfl
          case hw89 => rfl
          case hy89 => (intro w1 hSw; (try dsimp only at hSw); go_simp; try with_reducible rfl)
          (try simp only [Act.put, List.setIfInBounds_toArray, List.set_cons_zero, List.set_cons_succ])
          refine wpAnyH_take (i := 12) (oi := ?oi90) (v := ?v90) (fuel := 2) ?hi90 ?hs90 ?hf90 ?hr90 ?hq90 (Or.inl ⟨?hw90, ?hy90⟩) hHeld ?rest90
          case hi90 => rw [List.getElem?_toArray]; rfl
          case hq90 => exact fun _ _ _ h => h
          case hs90 | hf90 | hr90 => kernel_rfl
          case hw90 => rfl
          case hy90 => (intro w1 hSw; (try dsimp only at hSw); go_simp; try with_reducible rfl)
          (try simp only [Act.put, List.setIfInBounds_toArray, List.set_cons_zero, List.set_cons_succ])
          refine wpAnyH_ready (fuel := 1) (rs := [14]) (by kernel_rfl) (by simp) ?_
          refine AllReadyH.cons (o := ?oi91) ?hi91 (fun K hK => ?st91) AllReadyH.nil
          case hi91 => rw [List.getElem?_toArray]; rfl
          obtain ⟨e0, e1, e2, e3, e4, e5, el, ef⟩ := H8.out
          go_simp
          clear e0 e1 e2 e3 e4 e5 el ef
          have HX9 : D6 ((((((wr9.setCell ⟨G, 0, none⟩ (.int .i64 (on : Int))).setCell ⟨G, 1, none⟩ (.int .i64 d')).setCell ⟨G, 2, none⟩ (.int .i64 s')).setCell ⟨G, 3, none⟩ (.int .i64 f)).setCell ⟨G, 4, none⟩ (.int .i64 i')).setCell ⟨G, 5, none⟩ (.int .i64 (z : Int))) w.heap.size 0 0 0 0 0 0 := D6.stO HX.out (by omega) (on : Int) d' s' f i' (z : Int)
          have HSL9 : SL ((((((wr9.setCell ⟨G, 0, none⟩ (.int .i64 (on : Int))).setCell ⟨G, 1, none⟩ (.int .i64 d')).setCell ⟨G, 2, none⟩ (.int .i64 s')).setCell ⟨G, 3, none⟩ (.int .i64 f)).setCell ⟨G, 4, none⟩ (.int .i64 i')).setCell ⟨G, 5, none⟩ (.int .i64 (z : Int))) L W := SL.stO HSL.out (by omega) (on : Int) d' s' f i' (z : Int)
          have HB9 : D6 ((((((wr9.setCell ⟨G, 0, none⟩ (.int .i64 (on : Int))).setCell ⟨G, 1, none⟩ (.int .i64 d')).setCell ⟨G, 2, none⟩ (.int .i64 s')).setCell ⟨G, 3, none⟩ (.int .i64 f)).setCell ⟨G, 4, none⟩ (.int .i64 i')).setCell ⟨G, 5, none⟩ (.int .i64 (z : Int))) B (on : Int) d' s' f' i' (z : Int) := D6.stO HB.out (by omega) (on : Int) d' s' f i' (z : Int)
          have H89 : D6 ((((((wr9.setCell ⟨G, 0, none⟩ (.int .i64 (on : Int))).setCell ⟨G, 1, none⟩ (.int .i64 d')).setCell ⟨G, 2, none⟩ (.int .i64 s')).setCell ⟨G, 3, none⟩ (.int .i64 f)).setCell ⟨G, 4, none⟩ (.int .i64 i')).setCell ⟨G, 5, none⟩ (.int .i64 (z : Int))) G (on : Int) d' s' f i' (z : Int) := D6.st H8.out (on : Int) d' s' f i' (z : Int)
          have HZ9 : Below w.heap.size w ((((((wr9.setCell ⟨G, 0, none⟩ (.int .i64 (on : Int))).setCell ⟨G, 1, none⟩ (.int .i64 d')).setCell ⟨G, 2, none⟩ (.int .i64 s')).setCell ⟨G, 3, none⟩ (.int .i64 f)).setCell ⟨G, 4, none⟩ (.int .i64 i')).setCell ⟨G, 5, none⟩ (.int .i64 (z : Int))) := stD_below HZ.out (by omega) (on : Int) d' s' f i' (z : Int)
          have CK9 : (((((((wr9.setCell ⟨G, 0, none⟩ (.int .i64 (on : Int))).setCell ⟨G, 1, none⟩ (.int .i64 d')).setCell ⟨G, 2, none⟩ (.int .i64 s')).setCell ⟨G, 3, none⟩ (.int .i64 f)).setCell ⟨G, 4, none⟩ (.int .i64 i')).setCell ⟨G, 5, none⟩ (.int .i64 (z : Int)))).cell? ⟨L, k1, none⟩ = some (.string x) := (World.cell?_setCell_other _ _ _ _ (by intro e; injection e; omega)).trans ((World.cell?_setCell_other _ _ _ _ (by intro e; injection e; omega)).trans ((World.cell?_setCell_other _ _ _ _ (by intro e; injection e; omega)).trans ((World.cell?_setCell_other _ _ _ _ (by intro e; injection e; omega)).trans ((World.cell?_setCell_other _ _ _ _ (by intro e; injection e; omega)).trans ((World.cell?_setCell_other _ _ _ _ (by intro e; injection e; omega)).trans CK.out)))))
          clear HX HSL HB H8 HZ CK
          generalize ((((((wr9.setCell ⟨G, 0, none⟩ (.int .i64 (on : Int))).setCell ⟨G, 1, none⟩ (.int .i64 d')).setCell ⟨G, 2, none⟩ (.int .i64 s')).setCell ⟨G, 3, none⟩ (.int .i64 f)).setCell ⟨G, 4, none⟩ (.int .i64 i')).setCell ⟨G, 5, none⟩ (.int .i64 (z : Int))) = wr14 at *
          have HX := hid HX9
          have HSL := hid HSL9
          have HB := hid HB9
          have H8 := hid H89
          have HZ := hid HZ9
          have CK := hid CK9
          clear HX9 HSL9 HB9 H89 HZ9 CK9
          refine hK.out _ _ ?hS91 (fun hHeld => ?re91)
          case hS91 => exact ⟨HB.out.c0, HB.out.c1, HB.out.c2, HB.out.c3, HB.out.c4, HB.out.c5, CK.out⟩
          clear hK K
          (try simp only [Act.put, List.setIfInBounds_toArray, List.set_cons_zero, List.set_cons_succ])
          refine wpAnyH_take (i := 15) (oi := ?oi92) (v := ?v92) (fuel := 0) ?hi92 ?hs92 ?hf92 ?hr92 ?hq92 (Or.inl ⟨?hw92, ?hy92⟩) hHeld ?rest92
          case hi92 => rw [List.getElem?_toArray]; rfl
          case hq92 => exact fun _ _ _ h => h
          case hs92 | hf92 | hr92 => kernel_rfl
          case hw92 => rfl
          case hy92 => (intro w1 hSw; (try dsimp only at hSw); go_simp; try with_reducible rfl)
          (try simp only [Act.put, List.setIfInBounds_toArray, List.set_cons_zero, List.set_cons_succ])
          refine wpAnyH_done (by kernel_rfl) ?_ _
          clear hHeld hbk hw6
          obtain ⟨e0, e1, e2, e3, e4, e5, el, ef⟩ := H8.out
          obtain ⟨b0, b1, b2, b3, b4, b5, bl, bf⟩ := HB.out
          go_wp2_with fail
          go_roundw
          case rel => exact ⟨k + 1, d', s', f, i', by omega, by go_num, hid (stD_below HZ.out (by omega) (on : Int) d' s' f i' (z : Int)), hid (D6.stO HX.out (by omega) (on : Int) d' s' f i' (z : Int)), hid (SL.stO HSL.out (by omega) (on : Int) d' s' f i' (z : Int)), hid (D6.st HB.out (on : Int) d' s' f i' (z : Int)), hid HCN.out⟩
          case measure => simp [intOf]; omega
        exact AllReadyH.nil
      · have hxw : x = callsL.getD i.toNat ⟨#[]⟩ := by rw [HXE.out, hp]; rfl
        have h99' := H99.out (hp ▸ List.getElem_mem _)
        have HRG : Hid (∀ a q, CallIs x (a, q) → a = i ∧ q = true) := hid (fun a q h => by rw [hxw] at h; have := call_is (n := i.toNat) (by omega) (by omega) h; exact ⟨by omega, this.2⟩)
        clear hxw h99'
        have HCN := hid (cand_c hlt HC.out hp)
        have CK := hid ck
        have hltp : k < pb.size := by have := HPBS.out; omega
        have hbk : (pb[k]'hltp).toNat = 99 := by have := hbyte; simpa [hp] using this
        go_wp2_with fail
        refine wp_region_held_drew (S := (fun w' => w'.cell? ⟨B, 0, none⟩ = some (.int .i64 (on : Int)) ∧ w'.cell? ⟨B, 1, none⟩ = some (.int .i64 d') ∧ w'.cell? ⟨B, 2, none⟩ = some (.int .i64 s') ∧ w'.cell? ⟨B, 3, none⟩ = some (.int .i64 f') ∧ w'.cell? ⟨B, 4, none⟩ = some (.int .i64 i') ∧ w'.cell? ⟨B, 5, none⟩ = some (.int .i64 (z : Int)) ∧ w'.cell? ⟨L, k1, none⟩ = some (.string x))) (by kernel_rfl) (by exact ⟨HB.out.c0, HB.out.c1, HB.out.c2, HB.out.c3, HB.out.c4, HB.out.c5, ck⟩) (fun hHeld => ?_)
        have bd : Below wr.heap.size wr wr.drew := (Below.refl _ _).drew
        clear ck
        replace HX := hid (HX.out.bel bd)
        replace CK := hid ((bd.cell (p := ⟨L, k1, none⟩) HSL.out.1).trans CK.out)
        replace HSL := hid (HSL.out.below bd)
        replace HB := hid (HB.out.bel bd)
        replace HZ := hid (HZ.out.to bd)
        clear bd
        generalize wr.drew = W1 at *
        refine wpAnyH_take (i := 0) (oi := ?oi93) (v := ?v93) (fuel := 15) ?hi93 ?hs93 ?hf93 ?hr93 ?hq93 (Or.inl ⟨?hw93, ?hy93⟩) hHeld ?rest93
        case hi93 => rw [List.getElem?_toArray]; rfl
        case hq93 => exact fun _ _ _ h => h
        case hs93 | hf93 | hr93 => kernel_rfl
        case hw93 => rfl
        case hy93 => (intro w1 hSw; (try dsimp only at hSw); go_simp; try with_reducible rfl)
        (try simp only [Act.put, List.setIfInBounds_toArray, List.set_cons_zero, List.set_cons_succ])
        refine wpAnyH_take (i := 1) (oi := ?oi94) (v := ?v94) (fuel := 14) ?hi94 ?hs94 ?hf94 ?hr94 ?hq94 (Or.inl ⟨?hw94, ?hy94⟩) hHeld ?rest94
        case hi94 => rw [List.getElem?_toArray]; rfl
        case hq94 => exact fun _ _ _ h => h
        case hs94 | hf94 | hr94 => kernel_rfl
        case hw94 => rfl
        case hy94 => (intro w1 hSw; (try dsimp only at hSw); go_simp; try with_reducible rfl)
        (try simp only [Act.put, List.setIfInBounds_toArray, List.set_cons_zero, List.set_cons_succ])
        refine wpAnyH_take (i := 2) (oi := ?oi95) (v := ?v95) (fuel := 13) ?hi95 ?hs95 ?hf95 ?hr95 ?hq95 (Or.inl ⟨?hw95, ?hy95⟩) hHeld ?rest95
        case hi95 => rw [List.getElem?_toArray]; rfl
        case hq95 => exact fun _ _ _ h => h
        case hs95 | hf95 | hr95 => kernel_rfl
        case hw95 => rfl
        case hy95 => (intro w1 hSw; (try dsimp only at hSw); go_simp; try with_reducible rfl)
        (try simp only [Act.put, List.setIfInBounds_toArray, List.set_cons_zero, List.set_cons_succ])
        refine wpAnyH_take (i := 3) (oi := ?oi96) (v := .int .u8 99) (fuel := 12) ?hi96 ?hs96 ?hf96 ?hr96 ?hq96 (Or.inl ⟨?hw96, ?hy96⟩) hHeld ?rest96
        case hi96 => rw [List.getElem?_toArray]; rfl
        case hq96 => exact fun _ _ _ h => h
        case hs96 | hf96 | hr96 => kernel_rfl
        case hw96 => rfl
        case hy96 => (intro w1 hSw; (try dsimp only at hSw); go_simp; try (first | rfl | simp [hbk]))
        (try simp only [Act.put, List.setIfInBounds_toArray, List.set_cons_zero, List.set_cons_succ])
        refine wpAnyH_take (i := 4) (oi := ?oi97) (v := ?v97) (fuel := 11) ?hi97 ?hs97 ?hf97 ?hr97 ?hq97 (Or.inl ⟨?hw97, ?hy97⟩) hHeld ?rest97
        case hi97 => rw [List.getElem?_toArray]; rfl
        case hq97 => exact fun _ _ _ h => h
        case hs97 | hf97 | hr97 => kernel_rfl
        case hw97 => rfl
        case hy97 => (intro w1 hSw; (try dsimp only at hSw); go_simp; try with_reducible rfl)
        (try simp only [Act.put, List.setIfInBounds_toArray, List.set_cons_zero, List.set_cons_succ])
        refine wpAnyH_take (i := 5) (oi := ?oi98) (v := ?v98) (fuel := 10) ?hi98 ?hs98 ?hf98 ?hr98 ?hq98 (Or.inl ⟨?hw98, ?hy98⟩) hHeld ?rest98
        case hi98 => rw [List.getElem?_toArray]; rfl
        case hq98 => exact fun _ _ _ h => h
        case hs98 | hf98 | hr98 => kernel_rfl
        case hw98 => rfl
        case hy98 => (intro w1 hSw; (try dsimp only at hSw); go_simp; try with_reducible rfl)
        (try simp only [Act.put, List.setIfInBounds_toArray, List.set_cons_zero, List.set_cons_succ])
        refine wpAnyH_take (i := 6) (oi := ?oi99) (v := .int .i64 (k1 : Int)) (fuel := 9) ?hi99 ?hs99 ?hf99 ?hr99 ?hq99 (Or.inl ⟨?hw99, ?hy99⟩) hHeld ?rest99
        case hi99 => rw [List.getElem?_toArray]; rfl
        case hq99 => exact fun _ _ _ h => h
        case hs99 | hf99 | hr99 => kernel_rfl
        case hw99 => rfl
        case hy99 => (intro w1 hSw; (try dsimp only at hSw); go_simp; try simp [hw6])
        (try simp only [Act.put, List.setIfInBounds_toArray, List.set_cons_zero, List.set_cons_succ])
        refine wpAnyH_take (i := 7) (oi := ?oi100) (v := ?v100) (fuel := 8) ?hi100 ?hs100 ?hf100 ?hr100 ?hq100 (Or.inl ⟨?hw100, ?hy100⟩) hHeld ?rest100
        case hi100 => rw [List.getElem?_toArray]; rfl
        case hq100 => exact fun _ _ _ h => h
        case hs100 | hf100 | hr100 => kernel_rfl
        case hw100 => rfl
        case hy100 => (intro w1 hSw; (try dsimp only at hSw); go_simp; try with_reducible rfl)
        (try simp only [Act.put, List.setIfInBounds_toArray, List.set_cons_zero, List.set_cons_succ])
        refine wpAnyH_take (i := 8) (oi := ?oi101) (v := ?v101) (fuel := 7) ?hi101 ?hs101 ?hf101 ?hr101 ?hq101 (Or.inl ⟨?hw101, ?hy101⟩) hHeld ?rest101
        case hi101 => rw [List.getElem?_toArray]; rfl
        case hq101 => exact fun _ _ _ h => h
        case hs101 | hf101 | hr101 => kernel_rfl
        case hw101 => rfl
        case hy101 => (intro w1 hSw; (try dsimp only at hSw); go_simp; try with_reducible rfl)
        (try simp only [Act.put, List.setIfInBounds_toArray, List.set_cons_zero, List.set_cons_succ])
        refine wpAnyH_ready (fuel := 6) (rs := [9, 13]) (by kernel_rfl) (by simp) ?_
        refine AllReadyH.cons (o := ?oi102) ?hi102 (fun K hK => ?st102) ?mo102
        case hi102 => rw [List.getElem?_toArray]; rfl
        case st102 =>
          go_simp
          refine (gc _ _ _ _ _ _ x (by omega) i HRG.out _ (HT.out.below HZ.out)).mono ?_
          rintro ee wr9 ⟨rfl, bq⟩
          replace HX := hid (HX.out.bel bq)
          replace CK := hid ((bq.cell (p := ⟨L, k1, none⟩) HSL.out.1).trans CK.out)
          replace HSL := hid (HSL.out.below bq)
          replace HB := hid (HB.out.bel bq)
          replace HZ := hid (HZ.out.to bq)
          clear bq
          go_wp2_with fail
          refine hK.out _ _ ?hS102 (fun hHeld => ?re102)
          case hS102 => exact ⟨HB.out.c0, HB.out.c1, HB.out.c2, HB.out.c3, HB.out.c4, HB.out.c5, CK.out⟩
          clear hK K
          (try simp only [Act.put, List.setIfInBounds_toArray, List.set_cons_zero, List.set_cons_succ])
          refine wpAnyH_take (i := 10) (oi := ?oi103) (v := ?v103) (fuel := 5) ?hi103 ?hs103 ?hf103 ?hr103 ?hq103 (Or.inl ⟨?hw103, ?hy103⟩) hHeld ?rest103
          case hi103 => rw [List.getElem?_toArray]; rfl
          case hq103 => exact fun _ _ _ h => h
          case hs103 | hf103 | hr103 => kernel_rfl
          case hw103 => rfl
          case hy103 => (intro w1 hSw; (try dsimp only at hSw); go_simp; try with_reducible rfl)
          (try simp only [Act.put, List.setIfInBounds_toArray, List.set_cons_zero, List.set_cons_succ])
          refine wpAnyH_take (i := 11) (oi := ?oi104) (v := ?v104) (fuel := 4) ?hi104 ?hs104 ?hf104 ?hr104 ?hq104 (Or.inl ⟨?hw104, ?hy104⟩) hHeld ?rest104
          case hi104 => rw [List.getElem?_toArray]; rfl
          case hq104 => exact fun _ _ _ h => h
          case hs104 | hf104 | hr104 => kernel_rfl
          case hw104 => rfl
          case hy104 => (intro w1 hSw; (try dsimp only at hSw); go_simp; try with_reducible rfl)
          (try simp only [Act.put, List.setIfInBounds_toArray, List.set_cons_zero, List.set_cons_succ])
          refine wpAnyH_take (i := 12) (oi := ?oi105) (v := ?v105) (fuel := 3) ?hi105 ?hs105 ?hf105 ?hr105 ?hq105 (Or.inl ⟨?hw105, ?hy105⟩) hHeld ?rest105
          case hi105 => rw [List.getElem?_toArray]; rfl
          case hq105 => exact fun _ _ _ h => h
          case hs105 | hf105 | hr105 => kernel_rfl
          case hw105 => rfl
          case hy105 => (intro w1 hSw; (try dsimp only at hSw); go_simp; try with_reducible rfl)
          (try simp only [Act.put, List.setIfInBounds_toArray, List.set_cons_zero, List.set_cons_succ])
          refine wpAnyH_ready (fuel := 2) (rs := [13]) (by kernel_rfl) (by simp) ?_
          refine AllReadyH.cons (o := ?oi106) ?hi106 (fun K hK => ?st106) AllReadyH.nil
          case hi106 => rw [List.getElem?_toArray]; rfl
          go_simp
          have H8 := hid (D6.new wr9 0 0 0 0 0 0 24)
          have bA := belA wr9 (.cells #[.int .i64 0, .int .i64 0, .int .i64 0, .int .i64 0, .int .i64 0, .int .i64 0] 24)
          have lG1 := HX.out.lt
          have lG2 := HB.out.lt
          have lG3 := HSL.out.1
          replace HX := hid (HX.out.bel bA)
          replace CK := hid ((bA.cell (p := ⟨L, k1, none⟩) HSL.out.1).trans CK.out)
          replace HSL := hid (HSL.out.below bA)
          replace HB := hid (HB.out.bel bA)
          replace HZ := hid (HZ.out.to bA)
          clear bA
          generalize wr9.alloc (.cells #[.int .i64 0, .int .i64 0, .int .i64 0, .int .i64 0, .int .i64 0, .int .i64 0] 24) = wr13 at *
          generalize wr9.heap.size = G at *
          refine hK.out _ _ ?hS106 (fun hHeld => ?re106)
          case hS106 => exact ⟨HB.out.c0, HB.out.c1, HB.out.c2, HB.out.c3, HB.out.c4, HB.out.c5, CK.out⟩
          clear hK K
          (try simp only [Act.put, List.setIfInBounds_toArray, List.set_cons_zero, List.set_cons_succ])
          refine wpAnyH_ready (fuel := 1) (rs := [14]) (by kernel_rfl) (by simp) ?_
          refine AllReadyH.cons (o := ?oi107) ?hi107 (fun K hK => ?st107) AllReadyH.nil
          case hi107 => rw [List.getElem?_toArray]; rfl
          obtain ⟨e0, e1, e2, e3, e4, e5, el, ef⟩ := H8.out
          go_simp
          clear e0 e1 e2 e3 e4 e5 el ef
          have HX9 : D6 ((((((wr13.setCell ⟨G, 0, none⟩ (.int .i64 (on : Int))).setCell ⟨G, 1, none⟩ (.int .i64 d')).setCell ⟨G, 2, none⟩ (.int .i64 s')).setCell ⟨G, 3, none⟩ (.int .i64 f')).setCell ⟨G, 4, none⟩ (.int .i64 i)).setCell ⟨G, 5, none⟩ (.int .i64 (z : Int))) w.heap.size 0 0 0 0 0 0 := D6.stO HX.out (by omega) (on : Int) d' s' f' i (z : Int)
          have HSL9 : SL ((((((wr13.setCell ⟨G, 0, none⟩ (.int .i64 (on : Int))).setCell ⟨G, 1, none⟩ (.int .i64 d')).setCell ⟨G, 2, none⟩ (.int .i64 s')).setCell ⟨G, 3, none⟩ (.int .i64 f')).setCell ⟨G, 4, none⟩ (.int .i64 i)).setCell ⟨G, 5, none⟩ (.int .i64 (z : Int))) L W := SL.stO HSL.out (by omega) (on : Int) d' s' f' i (z : Int)
          have HB9 : D6 ((((((wr13.setCell ⟨G, 0, none⟩ (.int .i64 (on : Int))).setCell ⟨G, 1, none⟩ (.int .i64 d')).setCell ⟨G, 2, none⟩ (.int .i64 s')).setCell ⟨G, 3, none⟩ (.int .i64 f')).setCell ⟨G, 4, none⟩ (.int .i64 i)).setCell ⟨G, 5, none⟩ (.int .i64 (z : Int))) B (on : Int) d' s' f' i' (z : Int) := D6.stO HB.out (by omega) (on : Int) d' s' f' i (z : Int)
          have H89 : D6 ((((((wr13.setCell ⟨G, 0, none⟩ (.int .i64 (on : Int))).setCell ⟨G, 1, none⟩ (.int .i64 d')).setCell ⟨G, 2, none⟩ (.int .i64 s')).setCell ⟨G, 3, none⟩ (.int .i64 f')).setCell ⟨G, 4, none⟩ (.int .i64 i)).setCell ⟨G, 5, none⟩ (.int .i64 (z : Int))) G (on : Int) d' s' f' i (z : Int) := D6.st H8.out (on : Int) d' s' f' i (z : Int)
          have HZ9 : Below w.heap.size w ((((((wr13.setCell ⟨G, 0, none⟩ (.int .i64 (on : Int))).setCell ⟨G, 1, none⟩ (.int .i64 d')).setCell ⟨G, 2, none⟩ (.int .i64 s')).setCell ⟨G, 3, none⟩ (.int .i64 f')).setCell ⟨G, 4, none⟩ (.int .i64 i)).setCell ⟨G, 5, none⟩ (.int .i64 (z : Int))) := stD_below HZ.out (by omega) (on : Int) d' s' f' i (z : Int)
          have CK9 : (((((((wr13.setCell ⟨G, 0, none⟩ (.int .i64 (on : Int))).setCell ⟨G, 1, none⟩ (.int .i64 d')).setCell ⟨G, 2, none⟩ (.int .i64 s')).setCell ⟨G, 3, none⟩ (.int .i64 f')).setCell ⟨G, 4, none⟩ (.int .i64 i)).setCell ⟨G, 5, none⟩ (.int .i64 (z : Int)))).cell? ⟨L, k1, none⟩ = some (.string x) := (World.cell?_setCell_other _ _ _ _ (by intro e; injection e; omega)).trans ((World.cell?_setCell_other _ _ _ _ (by intro e; injection e; omega)).trans ((World.cell?_setCell_other _ _ _ _ (by intro e; injection e; omega)).trans ((World.cell?_setCell_other _ _ _ _ (by intro e; injection e; omega)).trans ((World.cell?_setCell_other _ _ _ _ (by intro e; injection e; omega)).trans ((World.cell?_setCell_other _ _ _ _ (by intro e; injection e; omega)).trans CK.out)))))
          clear HX HSL HB H8 HZ CK
          generalize ((((((wr13.setCell ⟨G, 0, none⟩ (.int .i64 (on : Int))).setCell ⟨G, 1, none⟩ (.int .i64 d')).setCell ⟨G, 2, none⟩ (.int .i64 s')).setCell ⟨G, 3, none⟩ (.int .i64 f')).setCell ⟨G, 4, none⟩ (.int .i64 i)).setCell ⟨G, 5, none⟩ (.int .i64 (z : Int))) = wr14 at *
          have HX := hid HX9
          have HSL := hid HSL9
          have HB := hid HB9
          have H8 := hid H89
          have HZ := hid HZ9
          have CK := hid CK9
          clear HX9 HSL9 HB9 H89 HZ9 CK9
          refine hK.out _ _ ?hS107 (fun hHeld => ?re107)
          case hS107 => exact ⟨HB.out.c0, HB.out.c1, HB.out.c2, HB.out.c3, HB.out.c4, HB.out.c5, CK.out⟩
          clear hK K
          (try simp only [Act.put, List.setIfInBounds_toArray, List.set_cons_zero, List.set_cons_succ])
          refine wpAnyH_take (i := 15) (oi := ?oi108) (v := ?v108) (fuel := 0) ?hi108 ?hs108 ?hf108 ?hr108 ?hq108 (Or.inl ⟨?hw108, ?hy108⟩) hHeld ?rest108
          case hi108 => rw [List.getElem?_toArray]; rfl
          case hq108 => exact fun _ _ _ h => h
          case hs108 | hf108 | hr108 => kernel_rfl
          case hw108 => rfl
          case hy108 => (intro w1 hSw; (try dsimp only at hSw); go_simp; try with_reducible rfl)
          (try simp only [Act.put, List.setIfInBounds_toArray, List.set_cons_zero, List.set_cons_succ])
          refine wpAnyH_done (by kernel_rfl) ?_ _
          clear hHeld hbk hw6
          obtain ⟨e0, e1, e2, e3, e4, e5, el, ef⟩ := H8.out
          obtain ⟨b0, b1, b2, b3, b4, b5, bl, bf⟩ := HB.out
          go_wp2_with fail
          go_roundw
          case rel => exact ⟨k + 1, d', s', f', i, by omega, by go_num, hid (stD_below HZ.out (by omega) (on : Int) d' s' f' i (z : Int)), hid (D6.stO HX.out (by omega) (on : Int) d' s' f' i (z : Int)), hid (SL.stO HSL.out (by omega) (on : Int) d' s' f' i (z : Int)), hid (D6.st HB.out (on : Int) d' s' f' i (z : Int)), hid HCN.out⟩
          case measure => simp [intOf]; omega
        refine AllReadyH.cons (o := ?oi109) ?hi109 (fun K hK => ?st109) ?mo109
        case hi109 => rw [List.getElem?_toArray]; rfl
        case st109 =>
          go_simp
          have H8 := hid (D6.new W1 0 0 0 0 0 0 24)
          have bA := belA W1 (.cells #[.int .i64 0, .int .i64 0, .int .i64 0, .int .i64 0, .int .i64 0, .int .i64 0] 24)
          have lG1 := HX.out.lt
          have lG2 := HB.out.lt
          have lG3 := HSL.out.1
          replace HX := hid (HX.out.bel bA)
          replace CK := hid ((bA.cell (p := ⟨L, k1, none⟩) HSL.out.1).trans CK.out)
          replace HSL := hid (HSL.out.below bA)
          replace HB := hid (HB.out.bel bA)
          replace HZ := hid (HZ.out.to bA)
          clear bA
          generalize W1.alloc (.cells #[.int .i64 0, .int .i64 0, .int .i64 0, .int .i64 0, .int .i64 0, .int .i64 0] 24) = wr13 at *
          generalize W1.heap.size = G at *
          refine hK.out _ _ ?hS109 (fun hHeld => ?re109)
          case hS109 => exact ⟨HB.out.c0, HB.out.c1, HB.out.c2, HB.out.c3, HB.out.c4, HB.out.c5, CK.out⟩
          clear hK K
          (try simp only [Act.put, List.setIfInBounds_toArray, List.set_cons_zero, List.set_cons_succ])
          refine wpAnyH_ready (fuel := 5) (rs := [9]) (by kernel_rfl) (by simp) ?_
          refine AllReadyH.cons (o := ?oi110) ?hi110 (fun K hK => ?st110) AllReadyH.nil
          case hi110 => rw [List.getElem?_toArray]; rfl
          go_simp
          refine (gc _ _ _ _ _ _ x (by omega) i HRG.out _ (HT.out.below HZ.out)).mono ?_
          rintro ee wr9 ⟨rfl, bq⟩
          replace HX := hid (HX.out.bel bq)
          replace CK := hid ((bq.cell (p := ⟨L, k1, none⟩) HSL.out.1).trans CK.out)
          replace HSL := hid (HSL.out.below bq)
          replace HB := hid (HB.out.bel bq)
          replace H8 := hid (H8.out.bel bq)
          replace HZ := hid (HZ.out.to bq)
          clear bq
          go_wp2_with fail
          refine hK.out _ _ ?hS110 (fun hHeld => ?re110)
          case hS110 => exact ⟨HB.out.c0, HB.out.c1, HB.out.c2, HB.out.c3, HB.out.c4, HB.out.c5, CK.out⟩
          clear hK K
          (try simp only [Act.put, List.setIfInBounds_toArray, List.set_cons_zero, List.set_cons_succ])
          refine wpAnyH_take (i := 10) (oi := ?oi111) (v := ?v111) (fuel := 4) ?hi111 ?hs111 ?hf111 ?hr111 ?hq111 (Or.inl ⟨?hw111, ?hy111⟩) hHeld ?rest111
          case hi111 => rw [List.getElem?_toArray]; rfl
          case hq111 => exact fun _ _ _ h => h
          case hs111 | hf111 | hr111 => kernel_rfl
          case hw111 => rfl
          case hy111 => (intro w1 hSw; (try dsimp only at hSw); go_simp; try with_reducible rfl)
          (try simp only [Act.put, List.setIfInBounds_toArray, List.set_cons_zero, List.set_cons_succ])
          refine wpAnyH_take (i := 11) (oi := ?oi112) (v := ?v112) (fuel := 3) ?hi112 ?hs112 ?hf112 ?hr112 ?hq112 (Or.inl ⟨?hw112, ?hy112⟩) hHeld ?rest112
          case hi112 => rw [List.getElem?_toArray]; rfl
          case hq112 => exact fun _ _ _ h => h
          case hs112 | hf112 | hr112 => kernel_rfl
          case hw112 => rfl
          case hy112 => (intro w1 hSw; (try dsimp only at hSw); go_simp; try with_reducible rfl)
          (try simp only [Act.put, List.setIfInBounds_toArray, List.set_cons_zero, List.set_cons_succ])
          refine wpAnyH_take (i := 12) (oi := ?oi113) (v := ?v113) (fuel := 2) ?hi113 ?hs113 ?hf113 ?hr113 ?hq113 (Or.inl ⟨?hw113, ?hy113⟩) hHeld ?rest113
          case hi113 => rw [List.getElem?_toArray]; rfl
          case hq113 => exact fun _ _ _ h => h
          case hs113 | hf113 | hr113 => kernel_rfl
          case hw113 => rfl
          case hy113 => (intro w1 hSw; (try dsimp only at hSw); go_simp; try with_reducible rfl)
          (try simp only [Act.put, List.setIfInBounds_toArray, List.set_cons_zero, List.set_cons_succ])
          refine wpAnyH_ready (fuel := 1) (rs := [14]) (by kernel_rfl) (by simp) ?_
          refine AllReadyH.cons (o := ?oi114) ?hi114 (fun K hK => ?st114) AllReadyH.nil
          case hi114 => rw [List.getElem?_toArray]; rfl
          obtain ⟨e0, e1, e2, e3, e4, e5, el, ef⟩ := H8.out
          go_simp
          clear e0 e1 e2 e3 e4 e5 el ef
          have HX9 : D6 ((((((wr9.setCell ⟨G, 0, none⟩ (.int .i64 (on : Int))).setCell ⟨G, 1, none⟩ (.int .i64 d')).setCell ⟨G, 2, none⟩ (.int .i64 s')).setCell ⟨G, 3, none⟩ (.int .i64 f')).setCell ⟨G, 4, none⟩ (.int .i64 i)).setCell ⟨G, 5, none⟩ (.int .i64 (z : Int))) w.heap.size 0 0 0 0 0 0 := D6.stO HX.out (by omega) (on : Int) d' s' f' i (z : Int)
          have HSL9 : SL ((((((wr9.setCell ⟨G, 0, none⟩ (.int .i64 (on : Int))).setCell ⟨G, 1, none⟩ (.int .i64 d')).setCell ⟨G, 2, none⟩ (.int .i64 s')).setCell ⟨G, 3, none⟩ (.int .i64 f')).setCell ⟨G, 4, none⟩ (.int .i64 i)).setCell ⟨G, 5, none⟩ (.int .i64 (z : Int))) L W := SL.stO HSL.out (by omega) (on : Int) d' s' f' i (z : Int)
          have HB9 : D6 ((((((wr9.setCell ⟨G, 0, none⟩ (.int .i64 (on : Int))).setCell ⟨G, 1, none⟩ (.int .i64 d')).setCell ⟨G, 2, none⟩ (.int .i64 s')).setCell ⟨G, 3, none⟩ (.int .i64 f')).setCell ⟨G, 4, none⟩ (.int .i64 i)).setCell ⟨G, 5, none⟩ (.int .i64 (z : Int))) B (on : Int) d' s' f' i' (z : Int) := D6.stO HB.out (by omega) (on : Int) d' s' f' i (z : Int)
          have H89 : D6 ((((((wr9.setCell ⟨G, 0, none⟩ (.int .i64 (on : Int))).setCell ⟨G, 1, none⟩ (.int .i64 d')).setCell ⟨G, 2, none⟩ (.int .i64 s')).setCell ⟨G, 3, none⟩ (.int .i64 f')).setCell ⟨G, 4, none⟩ (.int .i64 i)).setCell ⟨G, 5, none⟩ (.int .i64 (z : Int))) G (on : Int) d' s' f' i (z : Int) := D6.st H8.out (on : Int) d' s' f' i (z : Int)
          have HZ9 : Below w.heap.size w ((((((wr9.setCell ⟨G, 0, none⟩ (.int .i64 (on : Int))).setCell ⟨G, 1, none⟩ (.int .i64 d')).setCell ⟨G, 2, none⟩ (.int .i64 s')).setCell ⟨G, 3, none⟩ (.int .i64 f')).setCell ⟨G, 4, none⟩ (.int .i64 i)).setCell ⟨G, 5, none⟩ (.int .i64 (z : Int))) := stD_below HZ.out (by omega) (on : Int) d' s' f' i (z : Int)
          have CK9 : (((((((wr9.setCell ⟨G, 0, none⟩ (.int .i64 (on : Int))).setCell ⟨G, 1, none⟩ (.int .i64 d')).setCell ⟨G, 2, none⟩ (.int .i64 s')).setCell ⟨G, 3, none⟩ (.int .i64 f')).setCell ⟨G, 4, none⟩ (.int .i64 i)).setCell ⟨G, 5, none⟩ (.int .i64 (z : Int)))).cell? ⟨L, k1, none⟩ = some (.string x) := (World.cell?_setCell_other _ _ _ _ (by intro e; injection e; omega)).trans ((World.cell?_setCell_other _ _ _ _ (by intro e; injection e; omega)).trans ((World.cell?_setCell_other _ _ _ _ (by intro e; injection e; omega)).trans ((World.cell?_setCell_other _ _ _ _ (by intro e; injection e; omega)).trans ((World.cell?_setCell_other _ _ _ _ (by intro e; injection e; omega)).trans ((World.cell?_setCell_other _ _ _ _ (by intro e; injection e; omega)).trans CK.out)))))
          clear HX HSL HB H8 HZ CK
          generalize ((((((wr9.setCell ⟨G, 0, none⟩ (.int .i64 (on : Int))).setCell ⟨G, 1, none⟩ (.int .i64 d')).setCell ⟨G, 2, none⟩ (.int .i64 s')).setCell ⟨G, 3, none⟩ (.int .i64 f')).setCell ⟨G, 4, none⟩ (.int .i64 i)).setCell ⟨G, 5, none⟩ (.int .i64 (z : Int))) = wr14 at *
          have HX := hid HX9
          have HSL := hid HSL9
          have HB := hid HB9
          have H8 := hid H89
          have HZ := hid HZ9
          have CK := hid CK9
          clear HX9 HSL9 HB9 H89 HZ9 CK9
          refine hK.out _ _ ?hS114 (fun hHeld => ?re114)
          case hS114 => exact ⟨HB.out.c0, HB.out.c1, HB.out.c2, HB.out.c3, HB.out.c4, HB.out.c5, CK.out⟩
          clear hK K
          (try simp only [Act.put, List.setIfInBounds_toArray, List.set_cons_zero, List.set_cons_succ])
          refine wpAnyH_take (i := 15) (oi := ?oi115) (v := ?v115) (fuel := 0) ?hi115 ?hs115 ?hf115 ?hr115 ?hq115 (Or.inl ⟨?hw115, ?hy115⟩) hHeld ?rest115
          case hi115 => rw [List.getElem?_toArray]; rfl
          case hq115 => exact fun _ _ _ h => h
          case hs115 | hf115 | hr115 => kernel_rfl
          case hw115 => rfl
          case hy115 => (intro w1 hSw; (try dsimp only at hSw); go_simp; try with_reducible rfl)
          (try simp only [Act.put, List.setIfInBounds_toArray, List.set_cons_zero, List.set_cons_succ])
          refine wpAnyH_done (by kernel_rfl) ?_ _
          clear hHeld hbk hw6
          obtain ⟨e0, e1, e2, e3, e4, e5, el, ef⟩ := H8.out
          obtain ⟨b0, b1, b2, b3, b4, b5, bl, bf⟩ := HB.out
          go_wp2_with fail
          go_roundw
          case rel => exact ⟨k + 1, d', s', f', i, by omega, by go_num, hid (stD_below HZ.out (by omega) (on : Int) d' s' f' i (z : Int)), hid (D6.stO HX.out (by omega) (on : Int) d' s' f' i (z : Int)), hid (SL.stO HSL.out (by omega) (on : Int) d' s' f' i (z : Int)), hid (D6.st HB.out (on : Int) d' s' f' i (z : Int)), hid HCN.out⟩
          case measure => simp [intOf]; omega
        exact AllReadyH.nil
    · obtain rfl : k = ps.length := by omega
      have hnl : ¬ ((ps.length : Int) < (pb.size : Int)) := by have := HPBS.out; omega
      obtain ⟨q1, q2, q3, q4⟩ := HC.out
      obtain ⟨g1, g2, g3, g4⟩ := HG.out
      rw [List.take_length] at q1 q2 q3 q4
      have e1 : d = d' := by rw [q1]; split; rfl; rename_i hh; exact g1 hh
      have e2 : s = s' := by rw [q2]; split; rfl; rename_i hh; exact g2 hh
      have e3 : f = f' := by rw [q3]; split; rfl; rename_i hh; exact g3 hh
      have e4 : i = i' := by rw [q4]; split; rfl; rename_i hh; exact g4 (fun a => hh (.inl a)) (fun a => hh (.inr a))
      subst e1
      subst e2
      subst e3
      subst e4
      clear q1 q2 q3 q4 g1 g2 g3 g4
      obtain ⟨b0, b1, b2, b3, b4, b5, bl, bf⟩ := HB.out
      go_wp2_with fail
      refine (putI_w _ _ _ _ _ _ _ (HT.out.t.below HZ.out)).mono ?_
      rintro e w5 ⟨⟨y, hy, hye, rfl⟩, b5'⟩
      replace HX := hid (HX.out.bel b5')
      replace HB := hid (HB.out.bel b5')
      replace HZ := hid (HZ.out.to b5')
      clear b0 b1 b2 b3 b4 b5 bl bf b5'
      have hys : y = S := by rw [hye.out, HP.out]
      subst hys
      have hnn : (y.toList != y.toList) = false := by simp
      obtain ⟨b0, b1, b2, b3, b4, b5, bl, bf⟩ := HB.out
      obtain ⟨r0, r1, r2, r3, r4, r5, rl, rf⟩ := HX.out
      go_wp2_with fail
      refine bodyPost_ret (v := .tuple #[.agg #[.int .i64 (on : Int), .int .i64 d, .int .i64 s, .int .i64 f, .int .i64 i, .int .i64 (z : Int)], .bool true]) (by simp [results, Tryz.results8, go_sem, r0, r1, r2, r3, r4, r5]) rfl ⟨rfl, ?_⟩
      exact stD_below HZ.out (Nat.le_refl _) (on : Int) d s f i (z : Int)
end
section
open Go.RowKit
set_option linter.unusedVariables false
set_option linter.unusedSimpArgs false

theorem regI_size {s i : Int} (hs0 : -1 ≤ s) (hs1 : s ≤ 10) (hi0 : 0 ≤ i) (hi1 : i ≤ 4294967295) : (regI s i).size ≤ 21 := by
  unfold regI
  split
  · have := decI_size (n := s) (by omega) (by omega)
    rw [ByteArray.size_append]; show 1 + _ ≤ _; omega
  · have := decI_size (n := i) (by omega) (by omega)
    omega
theorem SP_size : SP_.size = 1 := rfl
theorem SR_size : SR_.size = 2 := rfl
theorem R_size : (⟨#[114]⟩ : ByteArray).size = 1 := rfl

theorem getLine (o d s f i z : Int) (w : World) (hT : TabsG w) (hs : sokB o d s f i z = true) :
    Calls Tryz.prog 8 #[.string (lineS o d s f i z)] w fun e w' => e = .returned (.tuple #[.agg #[.int .i64 o, .int .i64 d, .int .i64 s, .int .i64 f, .int .i64 i, .int .i64 z], .bool true]) ∧ Below w.heap.size w w' := by
  have HP : linePutS o d s f i z = lineS o d s f i z := by unfold linePutS; rw [hs]; rfl
  have h := hs
  simp only [sokB, Bool.and_eq_true] at h
  obtain ⟨⟨⟨⟨hd, hs'⟩, hf⟩, hi⟩, hb⟩ := h
  have h1 : 0 ≤ d ∧ d ≤ 10 := by simpa [inB] using hd
  have h2 : -1 ≤ s ∧ s ≤ 10 := by simpa [inB] using hs'
  have h3 : -128 ≤ f ∧ f ≤ 127 := by simpa [inB] using hf
  have h4 : 0 ≤ i ∧ i ≤ 4294967295 := by simpa [inB] using hi
  have zd := decI_size (n := d) (by omega) (by omega)
  have zs := decI_size (n := s) (by omega) (by omega)
  have zf := decI_size (n := f) (by omega) (by omega)
  have zi := decI_size (n := i) (by omega) (by omega)
  have zr := regI_size h2.1 h2.2 h4.1 h4.2
  have hfst : ∀ k : Nat, ¬ (k = 17 ∨ k = 18) → firstS k 0 = wordsL.getD k ⟨#[]⟩ := fun k hk => by
    unfold firstS
    rw [if_neg]
    simp [reachesB, isB]
    omega
  unfold bareB at hb
  cases hA : inB o 1 11
  · cases hJ : inB o 12 15
    · rw [hA, hJ] at hb
      simp only [Bool.false_eq_true, if_false] at hb
      by_cases e16 : o = 16
      · subst e16
        simp [isB] at hb
        obtain ⟨⟨⟨rfl, rfl⟩, rfl⟩, rfl⟩ := hb
        have hl : lineS 16 0 (-1) f 0 0 = joinW (firstS 16 0 :: [111].map (wordP 0 (-1) f 0)) := by
          rw [hfst 16 (by decide)]
          simp only [lineS, hA, hJ, ByteArray.append_assoc]; rfl
        have hz : (lineS 16 0 (-1) f 0 0).size ≤ 1000 := by
          have := word_size 16
          rw [hl, hfst 16 (by decide)]
          show (wordsL.getD 16 ⟨#[]⟩ ++ (SP_ ++ decI f)).size ≤ 1000
          simp only [ByteArray.size_append, SP_size]
          omega
        exact getA 16 0 0 (-1) f 0 [111] _ w hT (by omega) (by omega) (by omega) (by decide) h1.1 h1.2 h2.1 h2.2 h3.1 h3.2 h4.1 h4.2 (by decide) (by decide) (by decide) hl hz (by simp) (by simp) HP (by simp) (by simp) (by simp) (by simp)
      by_cases e17 : o = 17
      · subst e17
        have hz : (z = 1 ∨ z = 2 ∨ z = 4) ∧ 0 ≤ s ∧ i = 0 := by simp [isB] at hb; omega
        obtain ⟨hz, hs0, rfl⟩ := hz
        obtain ⟨n, rfl⟩ : ∃ n : Nat, z = n := ⟨z.toNat, by omega⟩
        have hr : regI s 0 = ⟨#[114]⟩ ++ decI s := by unfold regI; rw [if_pos hs0]
        have hl : lineS 17 d s f 0 (n : Int) = joinW (firstS 17 n :: [100, 120, 111].map (wordP d s f 0)) := by
          show _ = (wordsL.getD 17 ⟨#[]⟩ ++ decI (n : Int)) ++ (SP_ ++ ((⟨#[114]⟩ ++ decI d) ++ (SP_ ++ (regI s 0 ++ (SP_ ++ decI f)))))
          simp only [lineS, hA, hJ, ByteArray.append_assoc, srp, hr]; rfl
        have zz := decI_size (n := (n : Int)) (by omega) (by omega)
        have hsz : (lineS 17 d s f 0 (n : Int)).size ≤ 1000 := by
          have := word_size 17
          rw [hl]
          show ((wordsL.getD 17 ⟨#[]⟩ ++ decI (n : Int)) ++ (SP_ ++ ((⟨#[114]⟩ ++ decI d) ++ (SP_ ++ (regI s 0 ++ (SP_ ++ decI f)))))).size ≤ 1000
          simp only [ByteArray.size_append, SP_size, R_size]
          omega
        exact getA 17 n d s f 0 [100, 120, 111] _ w hT (by omega) (by omega) (by omega) (by rw [fits_eq]; unfold fitsN; simp; omega) h1.1 h1.2 h2.1 h2.2 h3.1 h3.2 h4.1 h4.2 (by decide) (by decide) (by decide) hl hsz (by simp) (fun _ => rfl) HP (by simp) (by simp) (by simp) (by simp)
      by_cases e18 : o = 18
      · subst e18
        have hz : (z = 1 ∨ z = 2 ∨ z = 4) ∧ (0 ≤ s → i = 0) := by simp [isB] at hb; omega
        obtain ⟨hz, hsi⟩ := hz
        obtain ⟨n, rfl⟩ : ∃ n : Nat, z = n := ⟨z.toNat, by omega⟩
        have hl : lineS 18 d s f i (n : Int) = joinW (firstS 18 n :: [100, 111, 120].map (wordP d s f i)) := by
          show _ = (wordsL.getD 18 ⟨#[]⟩ ++ decI (n : Int)) ++ (SP_ ++ ((⟨#[114]⟩ ++ decI d) ++ (SP_ ++ (decI f ++ (SP_ ++ regI s i)))))
          simp only [lineS, hA, hJ, ByteArray.append_assoc, srp]; rfl
        have zz := decI_size (n := (n : Int)) (by omega) (by omega)
        have hsz : (lineS 18 d s f i (n : Int)).size ≤ 1000 := by
          have := word_size 18
          rw [hl]
          show ((wordsL.getD 18 ⟨#[]⟩ ++ decI (n : Int)) ++ (SP_ ++ ((⟨#[114]⟩ ++ decI d) ++ (SP_ ++ (decI f ++ (SP_ ++ regI s i)))))).size ≤ 1000
          simp only [ByteArray.size_append, SP_size, R_size]
          omega
        exact getA 18 n d s f i [100, 111, 120] _ w hT (by omega) (by omega) (by omega) (by rw [fits_eq]; unfold fitsN; simp; omega) h1.1 h1.2 h2.1 h2.2 h3.1 h3.2 h4.1 h4.2 (by decide) (by decide) (by decide) hl hsz (by simp) hsi HP (by simp) (by simp) (by simp) (by simp)
      by_cases e19 : o = 19
      · subst e19
        have hz : 1 ≤ i ∧ i ≤ 6 ∧ d = 0 ∧ s = -1 ∧ f = 0 ∧ z = 0 := by simp [isB, inB] at hb; omega
        obtain ⟨hi1, hi6, rfl, rfl, rfl, rfl⟩ := hz
        have hl : lineS 19 0 (-1) 0 i 0 = joinW (firstS 19 0 :: [99].map (wordP 0 (-1) 0 i)) := by
          rw [hfst 19 (by decide)]
          simp only [lineS, hA, hJ, ByteArray.append_assoc]; rfl
        have hsz : (lineS 19 0 (-1) 0 i 0).size ≤ 1000 := by
          have := word_size 19
          have hc := call_size i.toNat
          rw [hl, hfst 19 (by decide)]
          show (wordsL.getD 19 ⟨#[]⟩ ++ (SP_ ++ callsL.getD i.toNat ⟨#[]⟩)).size ≤ 1000
          simp only [ByteArray.size_append, SP_size]
          omega
        exact getA 19 0 0 (-1) 0 i [99] _ w hT (by omega) (by omega) (by omega) (by decide) h1.1 h1.2 h2.1 h2.2 h3.1 h3.2 h4.1 h4.2 (by decide) (by decide) (by decide) hl hsz (fun _ => ⟨hi1, hi6⟩) (fun h => absurd h (by decide)) HP (by simp) (by simp) (by simp) (by simp)
      have e20 : o = 20 ∧ d = 0 ∧ s = -1 ∧ f = 0 ∧ i = 0 ∧ z = 0 := by simp [isB, e16, e17, e18, e19] at hb; omega
      obtain ⟨rfl, rfl, rfl, rfl, rfl, rfl⟩ := e20
      have hl : lineS 20 0 (-1) 0 0 0 = joinW (firstS 20 0 :: [].map (wordP 0 (-1) 0 0)) := by
        rw [hfst 20 (by decide)]
        simp only [lineS, hA, hJ]; rfl
      have hsz : (lineS 20 0 (-1) 0 0 0).size ≤ 1000 := by
        have := word_size 20
        rw [hl, hfst 20 (by decide)]
        show (wordsL.getD 20 ⟨#[]⟩).size ≤ 1000
        omega
      exact getA 20 0 0 (-1) 0 0 [] _ w hT (by omega) (by omega) (by omega) (by decide) h1.1 h1.2 h2.1 h2.2 h3.1 h3.2 h4.1 h4.2 (by decide) (by decide) (by decide) hl hsz (by simp) (by simp) HP (by simp) (by simp) (by simp) (by simp)
    · have ho : 12 ≤ o ∧ o ≤ 15 := by simpa [inB] using hJ
      rw [hA, hJ] at hb
      have hz : z = 0 ∧ (0 ≤ s → i = 0) := by simp [isB] at hb; omega
      obtain ⟨rfl, hsi⟩ := hz
      obtain ⟨n, rfl⟩ : ∃ n : Nat, o = n := ⟨o.toNat, by omega⟩
      have hl : lineS (n : Int) d s f i 0 = joinW (firstS n 0 :: [100, 120, 111].map (wordP d s f i)) := by
        rw [hfst n (by omega)]
        show _ = wordsL.getD n ⟨#[]⟩ ++ (SP_ ++ ((⟨#[114]⟩ ++ decI d) ++ (SP_ ++ (regI s i ++ (SP_ ++ decI f)))))
        simp only [lineS, hA, hJ, ByteArray.append_assoc, srp, Int.toNat_natCast]; rfl
      have hsz : (lineS (n : Int) d s f i 0).size ≤ 1000 := by
        have := word_size n
        rw [hl, hfst n (by omega)]
        show (wordsL.getD n ⟨#[]⟩ ++ (SP_ ++ ((⟨#[114]⟩ ++ decI d) ++ (SP_ ++ (regI s i ++ (SP_ ++ decI f)))))).size ≤ 1000
        simp only [ByteArray.size_append, SP_size, R_size]
        omega
      exact getA n 0 d s f i [100, 120, 111] _ w hT (by omega) (by omega) (by omega) (by rw [fits_eq]; unfold fitsN; rw [if_neg (by omega)]; rfl) h1.1 h1.2 h2.1 h2.2 h3.1 h3.2 h4.1 h4.2 (by decide) (by decide) (by simp [partsS, hA, hJ]) hl hsz (by simp) hsi HP (by simp) (by simp) (by simp) (by simp)
  · have ho : 1 ≤ o ∧ o ≤ 11 := by simpa [inB] using hA
    rw [hA] at hb
    have hz : f = 0 ∧ z = 0 ∧ (0 ≤ s → i = 0) := by simp [isB] at hb; omega
    obtain ⟨rfl, rfl, hsi⟩ := hz
    obtain ⟨n, rfl⟩ : ∃ n : Nat, o = n := ⟨o.toNat, by omega⟩
    have hl : lineS (n : Int) d s 0 i 0 = joinW (firstS n 0 :: [100, 120].map (wordP d s 0 i)) := by
      rw [hfst n (by omega)]
      show _ = wordsL.getD n ⟨#[]⟩ ++ (SP_ ++ ((⟨#[114]⟩ ++ decI d) ++ (SP_ ++ regI s i)))
      simp only [lineS, hA, ByteArray.append_assoc, srp, Int.toNat_natCast]; rfl
    have hsz : (lineS (n : Int) d s 0 i 0).size ≤ 1000 := by
      have := word_size n
      rw [hl, hfst n (by omega)]
      show (wordsL.getD n ⟨#[]⟩ ++ (SP_ ++ ((⟨#[114]⟩ ++ decI d) ++ (SP_ ++ regI s i)))).size ≤ 1000
      simp only [ByteArray.size_append, SP_size, R_size]
      omega
    exact getA n 0 d s 0 i [100, 120] _ w hT (by omega) (by omega) (by omega) (by rw [fits_eq]; unfold fitsN; rw [if_neg (by omega)]; rfl) h1.1 h1.2 h2.1 h2.2 h3.1 h3.2 h4.1 h4.2 (by decide) (by decide) (by simp [partsS, hA]) hl hsz (by simp) hsi HP (by simp) (by simp) (by simp) (by simp)
end
section
open Go.RowKit
set_option linter.unusedVariables false
set_option linter.unusedSimpArgs false

structure LW (on z : Nat) (d s f i : Int) (ps : List UInt8) (S : ByteArray) : Prop where
  hon1 : 1 ≤ on
  hon2 : on ≤ 20
  hz : z ≤ 4
  hfit : sizeFitsB (on : Int) (z : Int) = true
  hd0 : 0 ≤ d
  hd1 : d ≤ 10
  hs0 : -1 ≤ s
  hs1 : s ≤ 10
  hf0 : -128 ≤ f
  hf1 : f ≤ 127
  hi0 : 0 ≤ i
  hi1 : i ≤ 4294967295
  hpl : ps.length ≤ 3
  hall : ∀ p ∈ ps, p = 100 ∨ p = 120 ∨ p = 111 ∨ p = 99
  hps : partsS (on : Int) = ⟨ps.toArray⟩
  hS : S = joinW (firstS on z :: ps.map (wordP d s f i))
  hsz : S.size ≤ 1000
  h99 : (99 : UInt8) ∈ ps → 1 ≤ i ∧ i ≤ 6
  hxs : 0 ≤ s → i = 0
  hput : linePutS (on : Int) d s f i (z : Int) = S
  g1 : (100 : UInt8) ∉ ps → d = 0
  g2 : (120 : UInt8) ∉ ps → s = -1
  g3 : (111 : UInt8) ∉ ps → f = 0
  hok : sokB (on : Int) d s f i (z : Int) = true
  g4 : (120 : UInt8) ∉ ps → (99 : UInt8) ∉ ps → i = 0
theorem line_words (o d s f i z : Int) (hs : sokB o d s f i z = true) : ∃ (on zn : Nat) (ps : List UInt8), o = (on : Int) ∧ z = (zn : Int) ∧ LW on zn d s f i ps (lineS o d s f i z) := by
  have HP : linePutS o d s f i z = lineS o d s f i z := by unfold linePutS; rw [hs]; rfl
  have h := hs
  simp only [sokB, Bool.and_eq_true] at h
  obtain ⟨⟨⟨⟨hd, hs'⟩, hf⟩, hi⟩, hb⟩ := h
  have h1 : 0 ≤ d ∧ d ≤ 10 := by simpa [inB] using hd
  have h2 : -1 ≤ s ∧ s ≤ 10 := by simpa [inB] using hs'
  have h3 : -128 ≤ f ∧ f ≤ 127 := by simpa [inB] using hf
  have h4 : 0 ≤ i ∧ i ≤ 4294967295 := by simpa [inB] using hi
  have zd := decI_size (n := d) (by omega) (by omega)
  have zs := decI_size (n := s) (by omega) (by omega)
  have zf := decI_size (n := f) (by omega) (by omega)
  have zi := decI_size (n := i) (by omega) (by omega)
  have zr := regI_size h2.1 h2.2 h4.1 h4.2
  have hfst : ∀ k : Nat, ¬ (k = 17 ∨ k = 18) → firstS k 0 = wordsL.getD k ⟨#[]⟩ := fun k hk => by
    unfold firstS
    rw [if_neg]
    simp [reachesB, isB]
    omega
  unfold bareB at hb
  cases hA : inB o 1 11
  · cases hJ : inB o 12 15
    · rw [hA, hJ] at hb
      simp only [Bool.false_eq_true, if_false] at hb
      by_cases e16 : o = 16
      · subst e16
        simp [isB] at hb
        obtain ⟨⟨⟨rfl, rfl⟩, rfl⟩, rfl⟩ := hb
        have hl : lineS 16 0 (-1) f 0 0 = joinW (firstS 16 0 :: [111].map (wordP 0 (-1) f 0)) := by
          rw [hfst 16 (by decide)]
          simp only [lineS, hA, hJ, ByteArray.append_assoc]; rfl
        have hz : (lineS 16 0 (-1) f 0 0).size ≤ 1000 := by
          have := word_size 16
          rw [hl, hfst 16 (by decide)]
          show (wordsL.getD 16 ⟨#[]⟩ ++ (SP_ ++ decI f)).size ≤ 1000
          simp only [ByteArray.size_append, SP_size]
          omega
        exact ⟨16, 0, [111], rfl, rfl, ⟨(by omega), (by omega), (by omega), (by decide), h1.1, h1.2, h2.1, h2.2, h3.1, h3.2, h4.1, h4.2, (by decide), (by decide), (by decide), hl, hz, (by simp), (by simp), HP, (by simp), (by simp), (by simp), hs, (by simp)⟩⟩
      by_cases e17 : o = 17
      · subst e17
        have hz : (z = 1 ∨ z = 2 ∨ z = 4) ∧ 0 ≤ s ∧ i = 0 := by simp [isB] at hb; omega
        obtain ⟨hz, hs0, rfl⟩ := hz
        obtain ⟨n, rfl⟩ : ∃ n : Nat, z = n := ⟨z.toNat, by omega⟩
        have hr : regI s 0 = ⟨#[114]⟩ ++ decI s := by unfold regI; rw [if_pos hs0]
        have hl : lineS 17 d s f 0 (n : Int) = joinW (firstS 17 n :: [100, 120, 111].map (wordP d s f 0)) := by
          show _ = (wordsL.getD 17 ⟨#[]⟩ ++ decI (n : Int)) ++ (SP_ ++ ((⟨#[114]⟩ ++ decI d) ++ (SP_ ++ (regI s 0 ++ (SP_ ++ decI f)))))
          simp only [lineS, hA, hJ, ByteArray.append_assoc, srp, hr]; rfl
        have zz := decI_size (n := (n : Int)) (by omega) (by omega)
        have hsz : (lineS 17 d s f 0 (n : Int)).size ≤ 1000 := by
          have := word_size 17
          rw [hl]
          show ((wordsL.getD 17 ⟨#[]⟩ ++ decI (n : Int)) ++ (SP_ ++ ((⟨#[114]⟩ ++ decI d) ++ (SP_ ++ (regI s 0 ++ (SP_ ++ decI f)))))).size ≤ 1000
          simp only [ByteArray.size_append, SP_size, R_size]
          omega
        exact ⟨17, n, [100, 120, 111], rfl, rfl, ⟨(by omega), (by omega), (by omega), (by rw [fits_eq]; unfold fitsN; simp; omega), h1.1, h1.2, h2.1, h2.2, h3.1, h3.2, h4.1, h4.2, (by decide), (by decide), (by decide), hl, hsz, (by simp), (fun _ => rfl), HP, (by simp), (by simp), (by simp), hs, (by simp)⟩⟩
      by_cases e18 : o = 18
      · subst e18
        have hz : (z = 1 ∨ z = 2 ∨ z = 4) ∧ (0 ≤ s → i = 0) := by simp [isB] at hb; omega
        obtain ⟨hz, hsi⟩ := hz
        obtain ⟨n, rfl⟩ : ∃ n : Nat, z = n := ⟨z.toNat, by omega⟩
        have hl : lineS 18 d s f i (n : Int) = joinW (firstS 18 n :: [100, 111, 120].map (wordP d s f i)) := by
          show _ = (wordsL.getD 18 ⟨#[]⟩ ++ decI (n : Int)) ++ (SP_ ++ ((⟨#[114]⟩ ++ decI d) ++ (SP_ ++ (decI f ++ (SP_ ++ regI s i)))))
          simp only [lineS, hA, hJ, ByteArray.append_assoc, srp]; rfl
        have zz := decI_size (n := (n : Int)) (by omega) (by omega)
        have hsz : (lineS 18 d s f i (n : Int)).size ≤ 1000 := by
          have := word_size 18
          rw [hl]
          show ((wordsL.getD 18 ⟨#[]⟩ ++ decI (n : Int)) ++ (SP_ ++ ((⟨#[114]⟩ ++ decI d) ++ (SP_ ++ (decI f ++ (SP_ ++ regI s i)))))).size ≤ 1000
          simp only [ByteArray.size_append, SP_size, R_size]
          omega
        exact ⟨18, n, [100, 111, 120], rfl, rfl, ⟨(by omega), (by omega), (by omega), (by rw [fits_eq]; unfold fitsN; simp; omega), h1.1, h1.2, h2.1, h2.2, h3.1, h3.2, h4.1, h4.2, (by decide), (by decide), (by decide), hl, hsz, (by simp), hsi, HP, (by simp), (by simp), (by simp), hs, (by simp)⟩⟩
      by_cases e19 : o = 19
      · subst e19
        have hz : 1 ≤ i ∧ i ≤ 6 ∧ d = 0 ∧ s = -1 ∧ f = 0 ∧ z = 0 := by simp [isB, inB] at hb; omega
        obtain ⟨hi1, hi6, rfl, rfl, rfl, rfl⟩ := hz
        have hl : lineS 19 0 (-1) 0 i 0 = joinW (firstS 19 0 :: [99].map (wordP 0 (-1) 0 i)) := by
          rw [hfst 19 (by decide)]
          simp only [lineS, hA, hJ, ByteArray.append_assoc]; rfl
        have hsz : (lineS 19 0 (-1) 0 i 0).size ≤ 1000 := by
          have := word_size 19
          have hc := call_size i.toNat
          rw [hl, hfst 19 (by decide)]
          show (wordsL.getD 19 ⟨#[]⟩ ++ (SP_ ++ callsL.getD i.toNat ⟨#[]⟩)).size ≤ 1000
          simp only [ByteArray.size_append, SP_size]
          omega
        exact ⟨19, 0, [99], rfl, rfl, ⟨(by omega), (by omega), (by omega), (by decide), h1.1, h1.2, h2.1, h2.2, h3.1, h3.2, h4.1, h4.2, (by decide), (by decide), (by decide), hl, hsz, (fun _ => ⟨hi1, hi6⟩), (fun h => absurd h (by decide)), HP, (by simp), (by simp), (by simp), hs, (by simp)⟩⟩
      have e20 : o = 20 ∧ d = 0 ∧ s = -1 ∧ f = 0 ∧ i = 0 ∧ z = 0 := by simp [isB, e16, e17, e18, e19] at hb; omega
      obtain ⟨rfl, rfl, rfl, rfl, rfl, rfl⟩ := e20
      have hl : lineS 20 0 (-1) 0 0 0 = joinW (firstS 20 0 :: [].map (wordP 0 (-1) 0 0)) := by
        rw [hfst 20 (by decide)]
        simp only [lineS, hA, hJ]; rfl
      have hsz : (lineS 20 0 (-1) 0 0 0).size ≤ 1000 := by
        have := word_size 20
        rw [hl, hfst 20 (by decide)]
        show (wordsL.getD 20 ⟨#[]⟩).size ≤ 1000
        omega
      exact ⟨20, 0, [], rfl, rfl, ⟨(by omega), (by omega), (by omega), (by decide), h1.1, h1.2, h2.1, h2.2, h3.1, h3.2, h4.1, h4.2, (by decide), (by decide), (by decide), hl, hsz, (by simp), (by simp), HP, (by simp), (by simp), (by simp), hs, (by simp)⟩⟩
    · have ho : 12 ≤ o ∧ o ≤ 15 := by simpa [inB] using hJ
      rw [hA, hJ] at hb
      have hz : z = 0 ∧ (0 ≤ s → i = 0) := by simp [isB] at hb; omega
      obtain ⟨rfl, hsi⟩ := hz
      obtain ⟨n, rfl⟩ : ∃ n : Nat, o = n := ⟨o.toNat, by omega⟩
      have hl : lineS (n : Int) d s f i 0 = joinW (firstS n 0 :: [100, 120, 111].map (wordP d s f i)) := by
        rw [hfst n (by omega)]
        show _ = wordsL.getD n ⟨#[]⟩ ++ (SP_ ++ ((⟨#[114]⟩ ++ decI d) ++ (SP_ ++ (regI s i ++ (SP_ ++ decI f)))))
        simp only [lineS, hA, hJ, ByteArray.append_assoc, srp, Int.toNat_natCast]; rfl
      have hsz : (lineS (n : Int) d s f i 0).size ≤ 1000 := by
        have := word_size n
        rw [hl, hfst n (by omega)]
        show (wordsL.getD n ⟨#[]⟩ ++ (SP_ ++ ((⟨#[114]⟩ ++ decI d) ++ (SP_ ++ (regI s i ++ (SP_ ++ decI f)))))).size ≤ 1000
        simp only [ByteArray.size_append, SP_size, R_size]
        omega
      exact ⟨n, 0, [100, 120, 111], rfl, rfl, ⟨(by omega), (by omega), (by omega), (by rw [fits_eq]; unfold fitsN; rw [if_neg (by omega)]; rfl), h1.1, h1.2, h2.1, h2.2, h3.1, h3.2, h4.1, h4.2, (by decide), (by decide), (by simp [partsS, hA, hJ]), hl, hsz, (by simp), hsi, HP, (by simp), (by simp), (by simp), hs, (by simp)⟩⟩
  · have ho : 1 ≤ o ∧ o ≤ 11 := by simpa [inB] using hA
    rw [hA] at hb
    have hz : f = 0 ∧ z = 0 ∧ (0 ≤ s → i = 0) := by simp [isB] at hb; omega
    obtain ⟨rfl, rfl, hsi⟩ := hz
    obtain ⟨n, rfl⟩ : ∃ n : Nat, o = n := ⟨o.toNat, by omega⟩
    have hl : lineS (n : Int) d s 0 i 0 = joinW (firstS n 0 :: [100, 120].map (wordP d s 0 i)) := by
      rw [hfst n (by omega)]
      show _ = wordsL.getD n ⟨#[]⟩ ++ (SP_ ++ ((⟨#[114]⟩ ++ decI d) ++ (SP_ ++ regI s i)))
      simp only [lineS, hA, ByteArray.append_assoc, srp, Int.toNat_natCast]; rfl
    have hsz : (lineS (n : Int) d s 0 i 0).size ≤ 1000 := by
      have := word_size n
      rw [hl, hfst n (by omega)]
      show (wordsL.getD n ⟨#[]⟩ ++ (SP_ ++ ((⟨#[114]⟩ ++ decI d) ++ (SP_ ++ regI s i)))).size ≤ 1000
      simp only [ByteArray.size_append, SP_size, R_size]
      omega
    exact ⟨n, 0, [100, 120], rfl, rfl, ⟨(by omega), (by omega), (by omega), (by rw [fits_eq]; unfold fitsN; rw [if_neg (by omega)]; rfl), h1.1, h1.2, h2.1, h2.2, h3.1, h3.2, h4.1, h4.2, (by decide), (by decide), (by simp [partsS, hA]), hl, hsz, (by simp), hsi, HP, (by simp), (by simp), (by simp), hs, (by simp)⟩⟩

theorem word_inj : ∀ n, n < 21 → ∀ m, m < 21 → wordsL.getD n ⟨#[]⟩ = wordsL.getD m ⟨#[]⟩ → n = m := by decide +kernel
theorem decI_nat (n : Nat) : decI (n : Int) = decS n := by unfold decI; rw [if_neg (by omega), Int.toNat_natCast]
theorem decI_pos {n : Int} (h : 0 ≤ n) : decI n = decS n.toNat := by unfold decI; rw [if_neg (by omega)]
theorem find_word {k : Nat} {v : Int} (hk : k < 21) (h : FindIs wordsL (wordsL.getD k ⟨#[]⟩) v) : v = k := by
  rcases h with ⟨_, h⟩ | ⟨m, hm, rfl, h⟩
  · exact absurd rfl (h k hk)
  · rw [word_inj m hm k hk h]
theorem find_call {i v : Int} (h1 : 1 ≤ i) (h2 : i ≤ 6) (h : FindIs callsL (callsL.getD i.toNat ⟨#[]⟩) v) : v = i := by
  rcases h with ⟨_, h⟩ | ⟨m, hm, rfl, h⟩
  · exact absurd rfl (h i.toNat (show _ < 7 by omega))
  · have := call_inj m hm i.toNat (by omega) h
    omega
theorem reg_of_d {d d' b : Int} (h0 : 0 ≤ d) (h1 : d ≤ 10) (h : RegIs (⟨#[114]⟩ ++ decI d) d' b) : d' = d := by
  have := (h.1 d.toNat (by omega) (by rw [decI_pos h0])).1
  omega
theorem reg_of_x {s i s' i' : Int} (hs0 : -1 ≤ s) (hs1 : s ≤ 10) (hi0 : 0 ≤ i) (hi1 : i ≤ 4294967295) (hxs : 0 ≤ s → i = 0) (h : RegIs (regI s i) s' i') : s' = s ∧ i' = i := by
  unfold regI at h
  by_cases hs : 0 ≤ s
  · rw [if_pos hs, decI_pos hs] at h
    have := h.1 s.toNat (by omega) rfl
    have := hxs hs
    omega
  · rw [if_neg hs, decI_pos hi0] at h
    have := h.2 i.toNat (by omega) rfl
    omega
theorem sig_of {f f' : Int} (h0 : -128 ≤ f) (h1 : f ≤ 127) (h : SigIs (decI f) f') : f' = f := h f (by omega) (by omega) rfl
theorem ps_of {ps qs : List UInt8} {x : ByteArray} (h : x = ⟨ps.toArray⟩) (h2 : x = ⟨qs.toArray⟩) : ps = qs := by
  rw [h2] at h
  have := congrArg (fun y : ByteArray => y.data.toList) h
  simpa using this.symm
theorem firstS_r {k z : Nat} (h : k = 17 ∨ k = 18) : firstS k z = wordsL.getD k ⟨#[]⟩ ++ decS z := by
  rcases h with rfl | rfl
  · unfold firstS; rw [if_pos (by decide), decI_nat]
  · unfold firstS; rw [if_pos (by decide), decI_nat]
theorem firstS_n {k z : Nat} (h : ¬ (k = 17 ∨ k = 18)) : firstS k z = wordsL.getD k ⟨#[]⟩ := by
  unfold firstS
  rw [if_neg]
  simp [reachesB, isB]
  omega
def LD_ : ByteArray := ⟨#[108, 111, 97, 100]⟩
def SD_ : ByteArray := ⟨#[115, 116, 111, 114, 101]⟩
def PW (on zn : Nat) (n : Nat) (o z : Int) : Prop := ((on = 17 ∨ on = 18) → zn < n) → o = on ∧ z = zn
theorem fits_r {on zn : Nat} (h : on = 17 ∨ on = 18) (hf : sizeFitsB (on : Int) (zn : Int) = true) : zn = 1 ∨ zn = 2 ∨ zn = 4 := by
  rw [fits_eq] at hf
  unfold fitsN at hf
  rw [if_pos h] at hf
  simpa [or_assoc] using hf
theorem fits_n {on zn : Nat} (h : ¬ (on = 17 ∨ on = 18)) (hf : sizeFitsB (on : Int) (zn : Int) = true) : zn = 0 := by
  rw [fits_eq] at hf
  unfold fitsN at hf
  rw [if_neg h] at hf
  simpa using hf
theorem ext_front (a : ByteArray) (n : Nat) (h : n < 10) : (a ++ decS n).extract 0 ((a ++ decS n).size - 1) = a := by
  have h1 : (decS n).size = 1 := by rw [decS_lt h]; exact strOfNums_size' _
  have e : (a ++ decS n).size - 1 = a.size := by rw [ByteArray.size_append]; omega
  rw [e]
  apply ByteArray.ext
  apply Array.toList_inj.1
  have hl : a.data.toList.length = a.size := Array.length_toList
  rw [ext_list, ByteArray.data_append, Array.toList_append, List.drop_zero, ← hl, List.take_left]
theorem pw0 {on zn : Nat} (h1 : 1 ≤ on) (h2 : on ≤ 20) (hf : sizeFitsB (on : Int) (zn : Int) = true) (v : Int) (h : FindIs wordsL (firstS on zn) v) : PW on zn 1 v 0 := by
  intro hr
  by_cases hc : on = 17 ∨ on = 18
  · have := fits_r hc hf
    have := hr hc
    omega
  · rw [firstS_n hc] at h
    have := fits_n hc hf
    exact ⟨find_word (by omega) h, by omega⟩
theorem pwn {on zn : Nat} (hf : sizeFitsB (on : Int) (zn : Int) = true) (n : Nat) (o z : Int) (hn : n = 1 ∨ n = 2 ∨ n = 4) (h : PW on zn n o z) (hl : firstS on zn ≠ LD_ ++ decS n) (hs : firstS on zn ≠ SD_ ++ decS n) : PW on zn (n * 2) o z := by
  intro hr
  refine h fun hc => ?_
  have h1 := fits_r hc hf
  have h2 := hr hc
  rcases Nat.lt_or_ge zn n with h3 | h3
  · exact h3
  · obtain rfl : zn = n := by omega
    rw [firstS_r hc] at hl hs
    rcases hc with rfl | rfl
    · exact absurd rfl hl
    · exact absurd rfl hs
theorem pwy {on zn : Nat} (h1 : 1 ≤ on) (h2 : on ≤ 20) (hz : zn ≤ 4) (hf : sizeFitsB (on : Int) (zn : Int) = true) (n : Nat) (o z v : Int) (hn : n = 1 ∨ n = 2 ∨ n = 4) (h : PW on zn n o z) (hl : firstS on zn = LD_ ++ decS n ∨ firstS on zn = SD_ ++ decS n) (hv : FindIs wordsL ((firstS on zn).extract 0 ((firstS on zn).size - 1)) v) : PW on zn (n * 2) v n := by
  have key : ∀ k, (k = 17 ∨ k = 18) → firstS on zn = firstS k n → PW on zn (n * 2) v n := by
    intro k hk e
    have hfk : sizeFitsB (k : Int) (n : Int) = true := by
      rw [fits_eq]; unfold fitsN; rw [if_pos hk]; rcases hn with rfl | rfl | rfl <;> rfl
    obtain ⟨rfl, rfl⟩ := first_inj h1 h2 hz hf (by omega) (by omega) (by omega) hfk e
    rw [firstS_r hk, ext_front _ _ (by omega)] at hv
    exact fun _ => ⟨find_word (by omega) hv, rfl⟩
  rcases hl with e | e
  · exact key 17 (.inl rfl) (by rw [e, firstS_r (.inl rfl)]; rfl)
  · exact key 18 (.inr rfl) (by rw [e, firstS_r (.inr rfl)]; rfl)
theorem rest_of {on zn : Nat} {d s f i d' s' f' i' : Int} {ps : List UInt8} {S : ByteArray} (h : LW on zn d s f i ps S) (hr : Rest (firstS on zn :: ps.map (wordP d s f i)) (on : Int) d' s' f' i') : d' = d ∧ s' = s ∧ f' = f ∧ i' = i := by
  obtain ⟨r1, r2, r3, r4, r5, r6, r7⟩ := hr
  have hd := @reg_of_d d d'
  have hx := @reg_of_x s i s' i' h.hs0 h.hs1 h.hi0 h.hi1 h.hxs
  have hsg := @sig_of f f' h.hf0 h.hf1
  by_cases hA : inB (on : Int) 1 11 = true
  · obtain rfl := ps_of h.hps (show partsS (on : Int) = ⟨([100, 120] : List UInt8).toArray⟩ by unfold partsS; rw [if_pos hA])
    obtain ⟨⟨b, e1⟩, e2, e3⟩ := r1 hA rfl
    have h1 := hd h.hd0 h.hd1 e1
    have h2 := hx e2
    have := h.g3 (by decide)
    omega
  by_cases hJ : inB (on : Int) 12 15 = true
  · obtain rfl := ps_of h.hps (show partsS (on : Int) = ⟨([100, 120, 111] : List UInt8).toArray⟩ by unfold partsS; rw [if_neg hA, hJ]; rfl)
    obtain ⟨⟨b, e1⟩, e2, e3⟩ := r2 hJ rfl
    have h1 := hd h.hd0 h.hd1 e1
    have h2 := hx e2
    have h3 := hsg e3
    omega
  have hon : on = 16 ∨ on = 17 ∨ on = 18 ∨ on = 19 ∨ on = 20 := by
    have := h.hon1
    have := h.hon2
    simp [inB] at hA hJ
    omega
  rcases hon with rfl | rfl | rfl | rfl | rfl
  · obtain rfl := ps_of h.hps (show partsS 16 = ⟨([111] : List UInt8).toArray⟩ by decide)
    obtain ⟨e1, e2, e3, e4⟩ := r3 rfl rfl
    have h3 := hsg e3
    have := h.g1 (by decide)
    have := h.g2 (by decide)
    have := h.g4 (by decide) (by decide)
    omega
  · obtain rfl := ps_of h.hps (show partsS 17 = ⟨([100, 120, 111] : List UInt8).toArray⟩ by decide)
    obtain ⟨⟨b, e1⟩, ⟨b2, e2⟩, e3, e4⟩ := r4 rfl rfl
    have hk := h.hok
    have hk2 : 0 ≤ s ∧ i = 0 := by simp [sokB, bareB, isB, inB] at hk; omega
    have h1 := hd h.hd0 h.hd1 e1
    have h2 := @reg_of_x s i s' b2 h.hs0 h.hs1 h.hi0 h.hi1 h.hxs e2
    have h3 := hsg e3
    omega
  · obtain rfl := ps_of h.hps (show partsS 18 = ⟨([100, 111, 120] : List UInt8).toArray⟩ by decide)
    obtain ⟨⟨b, e1⟩, e2, e3⟩ := r5 rfl rfl
    have h1 := hd h.hd0 h.hd1 e1
    have h2 := hx e3
    have h3 := hsg e2
    omega
  · obtain rfl := ps_of h.hps (show partsS 19 = ⟨([99] : List UInt8).toArray⟩ by decide)
    obtain ⟨e1, e2, e3, e4⟩ := r6 rfl rfl
    have h9 := h.h99 (by decide)
    have h4 := find_call h9.1 h9.2 e4
    have := h.g1 (by decide)
    have := h.g2 (by decide)
    have := h.g3 (by decide)
    omega
  · obtain rfl := ps_of h.hps (show partsS 20 = ⟨([] : List UInt8).toArray⟩ by decide)
    obtain ⟨e1, e2, e3, e4⟩ := r7 rfl
    have := h.g1 (by decide)
    have := h.g2 (by decide)
    have := h.g3 (by decide)
    have := h.g4 (by decide) (by decide)
    omega
end
section
open Go.RowKit
set_option linter.unusedVariables false
set_option linter.unusedSimpArgs false

theorem joinW_inj {V W : List ByteArray} (hV : V ≠ []) (hW : W ≠ []) (nV : ∀ x ∈ V, No32 x) (nW : ∀ x ∈ W, No32 x) (h : joinW V = joinW W) : V = W := by
  obtain ⟨a1, a2⟩ := split_join V hV nV
  obtain ⟨b1, b2⟩ := split_join W hW nW
  have hl : V.length - 1 = W.length - 1 := by rw [← a2, ← b2, h]
  rw [← a1, ← b1, h, hl]
theorem joinW_snoc : ∀ W : List ByteArray, W ≠ [] → joinW (W ++ [⟨#[]⟩]) = joinW W ++ SP_
  | [], h => absurd rfl h
  | [w], _ => by
    show w ++ (SP_ ++ (⟨#[]⟩ : ByteArray)) = w ++ SP_
    rw [show SP_ ++ (⟨#[]⟩ : ByteArray) = SP_ from rfl]
  | w :: v :: r, _ => by
    have ih := joinW_snoc (v :: r) (by simp)
    have h1 : joinW (w :: v :: r ++ [⟨#[]⟩]) = w ++ (SP_ ++ joinW (v :: r ++ [⟨#[]⟩])) := rfl
    have h2 : joinW (w :: v :: r) = w ++ (SP_ ++ joinW (v :: r)) := rfl
    rw [h1, h2, ih]
    simp only [ByteArray.append_assoc]
theorem word_pos0 : ∀ k, k < 21 → 1 ≤ k → 0 < (wordsL.getD k ⟨#[]⟩).size := by decide +kernel
theorem call_pos0 : ∀ k, k < 7 → 1 ≤ k → 0 < (callsL.getD k ⟨#[]⟩).size := by decide +kernel
theorem decI_size0 (n : Int) : 0 < (decI n).size := by
  unfold decI
  split
  · have := dec0 n.natAbs
    rw [ByteArray.size_append]; omega
  · exact dec0 _
theorem regI_size0 (s i : Int) : 0 < (regI s i).size := by
  unfold regI
  split
  · have := decI_size0 s
    rw [ByteArray.size_append]; omega
  · exact decI_size0 _
theorem lw_pos {on zn : Nat} {d s f i : Int} {ps : List UInt8} {S : ByteArray} (h : LW on zn d s f i ps S) : ∀ x ∈ firstS on zn :: ps.map (wordP d s f i), 0 < x.size := by
  intro x hx
  rcases List.mem_cons.1 hx with rfl | hx
  · have := word_pos0 on (by have := h.hon2; omega) h.hon1
    unfold firstS
    split
    · rw [ByteArray.size_append]; omega
    · exact this
  · obtain ⟨p, hp, rfl⟩ := List.mem_map.1 hx
    unfold wordP
    split
    · have := decI_size0 d
      rw [ByteArray.size_append]; omega
    split
    · exact regI_size0 _ _
    split
    · exact decI_size0 _
    · rename_i h1 h2 h3
      have h99 : p = 99 := by
        rcases h.hall p hp with e | e | e | e
        · exact absurd e h1
        · exact absurd e h2
        · exact absurd e h3
        · exact e
      subst h99
      have := h.h99 hp
      exact call_pos0 i.toNat (by omega) (by omega)
theorem lw_no {on zn : Nat} {d s f i : Int} {ps : List UInt8} : ∀ x ∈ firstS on zn :: ps.map (wordP d s f i), No32 x := by
  intro x hx
  rcases List.mem_cons.1 hx with rfl | hx
  · exact firstS_no _ _
  · obtain ⟨p, _, rfl⟩ := List.mem_map.1 hx
    exact wordP_no _ _ _ _ _
theorem no_blank (o d s f i z : Int) (hok : sokB o d s f i z = true) (o' d' s' f' i' z' : Int) (hok' : sokB o' d' s' f' i' z' = true) : lineS o d s f i z ++ SP_ ≠ lineS o' d' s' f' i' z' := by
  obtain ⟨on, zn, ps, rfl, rfl, h⟩ := line_words o d s f i z hok
  obtain ⟨on', zn', ps', rfl, rfl, h'⟩ := line_words o' d' s' f' i' z' hok'
  intro e
  rw [h.hS, h'.hS, ← joinW_snoc _ (by simp)] at e
  have n0 : No32 (⟨#[]⟩ : ByteArray) := by unfold No32; decide
  have e2 := joinW_inj (by simp) (by simp) (fun x hx => by
    rcases List.mem_append.1 hx with hx | hx
    · exact lw_no x hx
    · simp at hx; rw [hx]; exact n0) lw_no e
  have := lw_pos h' ⟨#[]⟩ (by rw [← e2]; simp)
  exact absurd this (by decide)
end
section
open Go.RowKit
set_option linter.unusedVariables false
set_option linter.unusedSimpArgs false

set_option maxRecDepth 100000 in
set_option maxHeartbeats 4000000 in
theorem getNoS (S : ByteArray) (hs : S.size ≤ 1048576) (hno : ∀ o d t f i z : Int, sokB o d t f i z = true → S ≠ lineS o d t f i z) (w : World) :
    Calls Tryz.prog 10 #[.string S] w fun e w' => e = .returned (.tuple #[.agg #[.int .i64 0, .int .i64 0, .int .i64 0, .int .i64 0, .int .i64 0, .int .i64 0], .bool false]) ∧ Below w.heap.size w w' := by
  have HNO := hid hno
  clear hno
  go_enter Tryz.func10, Tryz.ntmps10
  go_wp2_with fail
  have hq : Box6 (w.alloc (.cells #[.int .i64 0, .int .i64 0, .int .i64 0, .int .i64 0, .int .i64 0, .int .i64 0] 24)) w.heap.size 0 0 0 0 0 0 := World.alloc_heap_new w _
  have hz : Below w.heap.size w (w.alloc (.cells #[.int .i64 0, .int .i64 0, .int .i64 0, .int .i64 0, .int .i64 0, .int .i64 0] 24)) := (Below.refl _ _).alloc (Nat.le_refl _) _
  have HQ := hid hq
  have HZ := hid hz
  clear hq hz
  generalize w.alloc (.cells #[.int .i64 0, .int .i64 0, .int .i64 0, .int .i64 0, .int .i64 0, .int .i64 0] 24) = w1 at *
  refine (cutE S w1 hs).mono ?_
  rintro e w2 ⟨⟨ws, a, c, rfl, l1, l6, hcut, hall, hown⟩, b2⟩
  replace HQ := hid (HQ.out.bel b2)
  replace HZ := hid (HZ.out.to b2)
  clear b2
  obtain ⟨g, hg, hsl⟩ : ∃ g, a = some ⟨g, 0, none⟩ ∧ SL w2 g ws := by
    have hown' := hown
    rcases hown.2 with ⟨_, h0⟩ | ⟨g, cap, cur, h0, _, hgb, _⟩
    · omega
    · simp only [Value.slice.injEq] at h0
      obtain ⟨rfl, _, _⟩ := h0
      refine ⟨g, rfl, (Array.getElem?_eq_some_iff.1 hgb).1, fun j hj => ?_⟩
      rw [hown'.cellAt j (by omega)]
      simp [List.getD, List.getElem?_eq_getElem hj]
  subst hg
  have HSL := hid hsl
  have HALL := hid hall
  clear hown hsl hall hcut
  go_wp2_with fail
  refine (readE (fun _ _ _ => True) ws g c _ HSL.out l1 l6 HALL.out (fun _ _ => trivial) (fun _ _ _ _ _ _ _ => trivial) (fun _ _ _ _ _ _ _ _ => trivial)).mono ?_
  rintro e w3 ⟨⟨o, d, t, f, i, z, _, _, rfl⟩, b3⟩
  replace HQ := hid (HQ.out.bel b3)
  replace HZ := hid (HZ.out.to b3)
  clear b3 HSL HALL
  go_wp2_with fail
  have hx : Box6 (w3.alloc (.cells #[.int .i64 o, .int .i64 d, .int .i64 t, .int .i64 f, .int .i64 i, .int .i64 z] 24)) w3.heap.size o d t f i z := World.alloc_heap_new w3 _
  have ba : Below w3.heap.size w3 (w3.alloc (.cells #[.int .i64 o, .int .i64 d, .int .i64 t, .int .i64 f, .int .i64 i, .int .i64 z] 24)) := (Below.refl _ _).alloc (Nat.le_refl _) _
  have lXQ := Box6.lt HQ.out
  replace HQ := hid (HQ.out.bel ba)
  replace HZ := hid (HZ.out.to ba)
  have HX := hid hx
  clear hx ba
  generalize w3.alloc (.cells #[.int .i64 o, .int .i64 d, .int .i64 t, .int .i64 f, .int .i64 i, .int .i64 z] 24) = w4 at *
  generalize w3.heap.size = X at *
  refine (f28 o d t f i z _).mono ?_
  rintro e w5 ⟨rfl, b5⟩
  replace HQ := hid (HQ.out.bel b5)
  replace HX := hid (HX.out.bel b5)
  replace HZ := hid (HZ.out.to b5)
  clear b5
  cases hok : sokB o d t f i z
  · skip
    have B5' := hid (st6b_below (B := w.heap.size) HZ.out (Nat.le_refl _) 0 0 0 0 0 0)
    have P5 := hid (Box6.cells (Box6.st HQ.out 0 0 0 0 0 0))
    obtain ⟨x0, x1, x2, x3, x4, x5⟩ := Box6.cells HX.out
    have xl := Box6.lt HX.out
    obtain ⟨q0, q1, q2, q3, q4, q5⟩ := Box6.cells HQ.out
    have ql := Box6.lt HQ.out
    have qf := Box6.frozen HQ.out
    go_wp2_with fail
    obtain ⟨r0, r1, r2, r3, r4, r5⟩ := P5.out
    unfold st6b at r0 r1 r2 r3 r4 r5
    refine bodyPost_ret (v := .tuple #[.agg #[.int .i64 0, .int .i64 0, .int .i64 0, .int .i64 0, .int .i64 0, .int .i64 0], .bool false]) (by simp [results, Tryz.results10, go_sem, r0, r1, r2, r3, r4, r5]) rfl ?_
    exact ⟨rfl, B5'.out⟩
  · skip
    obtain ⟨x0, x1, x2, x3, x4, x5⟩ := Box6.cells HX.out
    have xl := Box6.lt HX.out
    go_wp2_with fail
    clear x0 x1 x2 x3 x4 x5 xl
    refine (line_w o d t f i z _ hok).mono ?_
    rintro e w6 ⟨⟨x, hxs, hxe, rfl⟩, b6⟩
    replace HQ := hid (HQ.out.bel b6)
    replace HX := hid (HX.out.bel b6)
    replace HZ := hid (HZ.out.to b6)
    clear b6
    have hq : (x.toList == S.toList) = false := by
      cases hq : (x.toList == S.toList)
      · rfl
      · exact absurd (((str_eq _ _).1 hq).symm.trans hxe.out) (HNO.out o d t f i z hok)
    have B5' := hid (st6b_below (B := w.heap.size) HZ.out (Nat.le_refl _) 0 0 0 0 0 0)
    have P5 := hid (Box6.cells (Box6.st HQ.out 0 0 0 0 0 0))
    obtain ⟨x0, x1, x2, x3, x4, x5⟩ := Box6.cells HX.out
    have xl := Box6.lt HX.out
    obtain ⟨q0, q1, q2, q3, q4, q5⟩ := Box6.cells HQ.out
    have ql := Box6.lt HQ.out
    have qf := Box6.frozen HQ.out
    go_wp2_with fail
    obtain ⟨r0, r1, r2, r3, r4, r5⟩ := P5.out
    unfold st6b at r0 r1 r2 r3 r4 r5
    refine bodyPost_ret (v := .tuple #[.agg #[.int .i64 0, .int .i64 0, .int .i64 0, .int .i64 0, .int .i64 0, .int .i64 0], .bool false]) (by simp [results, Tryz.results10, go_sem, r0, r1, r2, r3, r4, r5]) rfl ?_
    exact ⟨rfl, B5'.out⟩

set_option maxRecDepth 100000 in
set_option maxHeartbeats 4000000 in
theorem getLW (on zn : Nat) (d t f i : Int) (ps : List UInt8) (S : ByteArray) (hL : LW on zn d t f i ps S) (hS : S = lineS (on : Int) d t f i (zn : Int)) (w : World) :
    Calls Tryz.prog 10 #[.string S] w fun e w' => e = .returned (.tuple #[.agg #[.int .i64 (on : Int), .int .i64 d, .int .i64 t, .int .i64 f, .int .i64 i, .int .i64 (zn : Int)], .bool true]) ∧ Below w.heap.size w w' := by
  have hs : S.size ≤ 1048576 := by have := hL.hsz; omega
  have HL := hid hL
  have HS := hid hS
  clear hL hS
  go_enter Tryz.func10, Tryz.ntmps10
  go_wp2_with fail
  have hq : Box6 (w.alloc (.cells #[.int .i64 0, .int .i64 0, .int .i64 0, .int .i64 0, .int .i64 0, .int .i64 0] 24)) w.heap.size 0 0 0 0 0 0 := World.alloc_heap_new w _
  have hz : Below w.heap.size w (w.alloc (.cells #[.int .i64 0, .int .i64 0, .int .i64 0, .int .i64 0, .int .i64 0, .int .i64 0] 24)) := (Below.refl _ _).alloc (Nat.le_refl _) _
  have HQ := hid hq
  have HZ := hid hz
  clear hq hz
  generalize w.alloc (.cells #[.int .i64 0, .int .i64 0, .int .i64 0, .int .i64 0, .int .i64 0, .int .i64 0] 24) = w1 at *
  refine (cutE S w1 hs).mono ?_
  rintro e w2 ⟨⟨ws, a, c, rfl, l1, l6, hcut, hall, hown⟩, b2⟩
  replace HQ := hid (HQ.out.bel b2)
  replace HZ := hid (HZ.out.to b2)
  clear b2
  obtain ⟨g, hg, hsl⟩ : ∃ g, a = some ⟨g, 0, none⟩ ∧ SL w2 g ws := by
    have hown' := hown
    rcases hown.2 with ⟨_, h0⟩ | ⟨g, cap, cur, h0, _, hgb, _⟩
    · omega
    · simp only [Value.slice.injEq] at h0
      obtain ⟨rfl, _, _⟩ := h0
      refine ⟨g, rfl, (Array.getElem?_eq_some_iff.1 hgb).1, fun j hj => ?_⟩
      rw [hown'.cellAt j (by omega)]
      simp [List.getD, List.getElem?_eq_getElem hj]
  subst hg
  have HSL := hid hsl
  have HALL := hid hall
  have hW : ws = firstS on zn :: ps.map (wordP d t f i) := hcut.out _ ⟨by simp, by have := HL.out.hpl; simp; omega, by
    intro x hx
    rcases List.mem_cons.1 hx with rfl | hx
    · exact firstS_no _ _
    · obtain ⟨p, _, rfl⟩ := List.mem_map.1 hx
      exact wordP_no _ _ _ _ _, HL.out.hS⟩
  have HWS := hid hW
  have h0 : ws.getD 0 ⟨#[]⟩ = firstS on zn := by rw [hW]; rfl
  have HP0 := hid h0
  clear hown hsl hall hcut hW h0
  go_wp2_with fail
  refine (readE (PW on zn) ws g c _ HSL.out l1 l6 HALL.out (fun v h => pw0 HL.out.hon1 HL.out.hon2 HL.out.hfit v (by rw [HP0.out] at h; exact h)) (fun n o z hn h a b => pwn HL.out.hfit n o z hn h (by rw [HP0.out] at a; exact a) (by rw [HP0.out] at b; exact b)) (fun n o z v hn h a b => pwy HL.out.hon1 HL.out.hon2 HL.out.hz HL.out.hfit n o z v hn h (by rw [HP0.out] at a; exact a) (by rw [HP0.out] at b; exact b))).mono ?_
  rintro e w3 ⟨⟨o', d', t', f', i', z', hP, hR, rfl⟩, b3⟩
  obtain ⟨rfl, rfl⟩ := hP.out (fun _ => by have := HL.out.hz; omega)
  have hr := hR.out
  rw [HWS.out] at hr
  obtain ⟨rfl, rfl, rfl, rfl⟩ := rest_of HL.out hr
  clear hP hR hr HP0
  replace HQ := hid (HQ.out.bel b3)
  replace HZ := hid (HZ.out.to b3)
  clear b3 HSL HALL HWS
  go_wp2_with fail
  have hx : Box6 (w3.alloc (.cells #[.int .i64 (on : Int), .int .i64 d', .int .i64 t', .int .i64 f', .int .i64 i', .int .i64 (zn : Int)] 24)) w3.heap.size (on : Int) d' t' f' i' (zn : Int) := World.alloc_heap_new w3 _
  have ba : Below w3.heap.size w3 (w3.alloc (.cells #[.int .i64 (on : Int), .int .i64 d', .int .i64 t', .int .i64 f', .int .i64 i', .int .i64 (zn : Int)] 24)) := (Below.refl _ _).alloc (Nat.le_refl _) _
  have lXQ := Box6.lt HQ.out
  replace HQ := hid (HQ.out.bel ba)
  replace HZ := hid (HZ.out.to ba)
  have HX := hid hx
  clear hx ba
  generalize w3.alloc (.cells #[.int .i64 (on : Int), .int .i64 d', .int .i64 t', .int .i64 f', .int .i64 i', .int .i64 (zn : Int)] 24) = w4 at *
  generalize w3.heap.size = X at *
  refine (f28 (on : Int) d' t' f' i' (zn : Int) _).mono ?_
  rintro e w5 ⟨rfl, b5⟩
  replace HQ := hid (HQ.out.bel b5)
  replace HX := hid (HX.out.bel b5)
  replace HZ := hid (HZ.out.to b5)
  clear b5
  rw [HL.out.hok]
  obtain ⟨x0, x1, x2, x3, x4, x5⟩ := Box6.cells HX.out
  have xl := Box6.lt HX.out
  go_wp2_with fail
  clear x0 x1 x2 x3 x4 x5 xl
  refine (line_w (on : Int) d' t' f' i' (zn : Int) _ HL.out.hok).mono ?_
  rintro e w6 ⟨⟨x, hxs, hxe, rfl⟩, b6⟩
  replace HQ := hid (HQ.out.bel b6)
  replace HX := hid (HX.out.bel b6)
  replace HZ := hid (HZ.out.to b6)
  clear b6
  have hq : (x.toList == S.toList) = true := (str_eq _ _).2 (hxe.out.trans HS.out.symm)
  have B5' := hid (st6b_below (B := w.heap.size) HZ.out (Nat.le_refl _) (on : Int) d' t' f' i' (zn : Int))
  have P5 := hid (Box6.cells (Box6.st HQ.out (on : Int) d' t' f' i' (zn : Int)))
  obtain ⟨x0, x1, x2, x3, x4, x5⟩ := Box6.cells HX.out
  have xl := Box6.lt HX.out
  obtain ⟨q0, q1, q2, q3, q4, q5⟩ := Box6.cells HQ.out
  have ql := Box6.lt HQ.out
  have qf := Box6.frozen HQ.out
  go_wp2_with fail
  obtain ⟨r0, r1, r2, r3, r4, r5⟩ := P5.out
  unfold st6b at r0 r1 r2 r3 r4 r5
  refine bodyPost_ret (v := .tuple #[.agg #[.int .i64 (on : Int), .int .i64 d', .int .i64 t', .int .i64 f', .int .i64 i', .int .i64 (zn : Int)], .bool true]) (by simp [results, Tryz.results10, go_sem, r0, r1, r2, r3, r4, r5]) rfl ?_
  exact ⟨rfl, B5'.out⟩

theorem getS (o d t f i z : Int) (hok : sokB o d t f i z = true) (w : World) :
    Calls Tryz.prog 10 #[.string (lineS o d t f i z)] w fun e w' => e = .returned (.tuple #[.agg #[.int .i64 o, .int .i64 d, .int .i64 t, .int .i64 f, .int .i64 i, .int .i64 z], .bool true]) ∧ Below w.heap.size w w' := by
  obtain ⟨on, zn, ps, rfl, rfl, hL⟩ := line_words o d t f i z hok
  exact getLW on zn d t f i ps _ hL rfl w
end
section
open Go.RowKit
set_option linter.unusedVariables false
set_option linter.unusedSimpArgs false

theorem words_of : ∀ l : List UInt8, ∃ W : List ByteArray, W ≠ [] ∧ (∀ x ∈ W, No32 x) ∧ (⟨l.toArray⟩ : ByteArray) = joinW W
  | [] => ⟨[⟨#[]⟩], by simp, by intro x hx; simp at hx; subst hx; unfold No32; decide, rfl⟩
  | b :: l => by
    obtain ⟨W, h1, h2, h3⟩ := words_of l
    have e : (⟨(b :: l).toArray⟩ : ByteArray) = ⟨#[b]⟩ ++ ⟨l.toArray⟩ := by
      apply ByteArray.ext
      apply Array.toList_inj.1
      rw [ByteArray.data_append, Array.toList_append]
      rfl
    by_cases hb : b = 32
    · refine ⟨⟨#[]⟩ :: W, by simp, ?_, ?_⟩
      · intro x hx
        rcases List.mem_cons.1 hx with rfl | hx
        · unfold No32; decide
        · exact h2 x hx
      · rw [e, h3, hb]
        match W, h1 with
        | w :: r, _ => 
          show _ = (⟨#[]⟩ : ByteArray) ++ (SP_ ++ joinW (w :: r))
          apply ByteArray.ext
          apply Array.toList_inj.1
          simp only [ByteArray.data_append, Array.toList_append]
          rfl
    · match W, h1, h2, h3 with
      | w :: r, _, h2, h3 =>
        refine ⟨(⟨#[b]⟩ ++ w) :: r, by simp, ?_, ?_⟩
        · intro x hx
          rcases List.mem_cons.1 hx with rfl | hx
          · refine no_app ?_ (h2 w (by simp))
            unfold No32
            simp
            exact fun h => hb h.symm
          · exact h2 x (List.mem_cons_of_mem _ hx)
        · rw [e, h3]
          match r with
          | [] => rfl
          | v :: r' =>
            show _ ++ (w ++ (SP_ ++ joinW (v :: r'))) = (_ ++ w) ++ (SP_ ++ joinW (v :: r'))
            rw [ByteArray.append_assoc]
theorem word_le : ∀ W : List ByteArray, ∀ x ∈ W, x.size ≤ (joinW W).size
  | [], x, h => by simp at h
  | [w], x, h => by simp at h; subst h; exact Nat.le_refl _
  | w :: v :: r, x, h => by
    have hj : joinW (w :: v :: r) = w ++ (SP_ ++ joinW (v :: r)) := rfl
    rw [hj, ByteArray.size_append, ByteArray.size_append]
    rcases List.mem_cons.1 h with rfl | h
    · omega
    · have := word_le (v :: r) x h
      omega
theorem parts_size (o : Int) : (partsS o).size ≤ 3 := by
  unfold partsS
  repeat (split; · decide)
  decide
theorem parts_byte (o : Int) : ∀ k (h : k < (partsS o).size), ((partsS o)[k]'h).toNat = 100 ∨ ((partsS o)[k]'h).toNat = 120 ∨ ((partsS o)[k]'h).toNat = 111 ∨ ((partsS o)[k]'h).toNat = 99 := by
  have key : ∀ x : ByteArray, (x = ⟨#[100, 120]⟩ ∨ x = ⟨#[100, 120, 111]⟩ ∨ x = ⟨#[100, 111, 120]⟩ ∨ x = ⟨#[111]⟩ ∨ x = ⟨#[99]⟩ ∨ x = ⟨#[]⟩) → ∀ k (h : k < x.size), (x[k]'h).toNat = 100 ∨ (x[k]'h).toNat = 120 ∨ (x[k]'h).toNat = 111 ∨ (x[k]'h).toNat = 99 := by
    intro x hx
    rcases hx with rfl | rfl | rfl | rfl | rfl | rfl <;> decide
  refine key _ ?_
  unfold partsS
  split
  · simp
  split
  · simp
  split
  · simp
  split
  · simp
  split
  · simp
  · simp
theorem first_pos : ∀ k, k < 21 → 1 ≤ k → 0 < (wordsL.getD k ⟨#[]⟩).size := by decide +kernel
theorem firstS_pos {k z : Nat} (h1 : 1 ≤ k) (h2 : k ≤ 20) : 0 < (firstS k z).size := by
  have := first_pos k (by omega) h1
  unfold firstS
  split
  · rw [ByteArray.size_append]; omega
  · exact this
theorem gpartA (p : Nat) (hp : p = 100 ∨ p = 120 ∨ p = 111 ∨ p = 99) (o d s f i z : Int) (x : ByteArray) (hx : x.size ≤ 281474976710656) (w : World) (hT : TabsG w) : Calls Tryz.prog 21 #[.agg #[.int .i64 o, .int .i64 d, .int .i64 s, .int .i64 f, .int .i64 i, .int .i64 z], .int .u8 (p : Int), .string x] w fun e w' => (∃ (a1 a2 a3 a4 : Int) (q : Bool), e = .returned (.tuple #[.agg #[.int .i64 o, .int .i64 a1, .int .i64 a2, .int .i64 a3, .int .i64 a4, .int .i64 z], .bool q])) ∧ Below w.heap.size w w' := by
  rcases hp with rfl | rfl | rfl | rfl
  · refine (gpart_d o d s f i z x hx w hT).mono ?_
    rintro e w' ⟨⟨a, q, ha, rfl⟩, hb⟩
    exact ⟨⟨_, _, _, _, _, rfl⟩, hb⟩
  · refine (gpart_x o d s f i z x hx w hT).mono ?_
    rintro e w' ⟨⟨a, ha, rfl⟩ | ⟨b, q, hbq, rfl⟩, hb⟩
    · exact ⟨⟨_, _, _, _, _, rfl⟩, hb⟩
    · exact ⟨⟨_, _, _, _, _, rfl⟩, hb⟩
  · refine (gpart_o o d s f i z x hx w hT).mono ?_
    rintro e w' ⟨⟨a, q, ha, rfl⟩, hb⟩
    exact ⟨⟨_, _, _, _, _, rfl⟩, hb⟩
  · refine (gpart_c o d s f i z x hx w hT).mono ?_
    rintro e w' ⟨⟨a, q, ha, rfl⟩, hb⟩
    exact ⟨⟨_, _, _, _, _, rfl⟩, hb⟩
set_option maxRecDepth 100000 in
set_option maxHeartbeats 4000000 in
theorem getNoI (S : ByteArray) (hS1 : S.size ≤ 1048576) (hno : ∀ o d s f i z : Int, sokB o d s f i z = true → S ≠ lineS o d s f i z) (w : World) (hT : TabsG w) :
    Calls Tryz.prog 8 #[.string S] w fun e w' => e = .returned (.tuple #[.agg #[.int .i64 0, .int .i64 0, .int .i64 0, .int .i64 0, .int .i64 0, .int .i64 0], .bool false]) ∧ Below w.heap.size w w' := by
  have HT := hid hT
  have HNO := hid hno
  have HX0 := hid (D6.new w 0 0 0 0 0 0 24)
  have HZ0 := hid (belA w (.cells #[.int .i64 0, .int .i64 0, .int .i64 0, .int .i64 0, .int .i64 0, .int .i64 0] 24))
  obtain ⟨W, hWn, hno2, hS⟩ := words_of S.data.toList
  have hS : S = joinW W := by rw [← hS]
  have HSP := hid (fun w' => splitW W S w' hWn hno2 hS (by omega))
  have HWS := hid (fun k (h : k < W.length) => (show (W.getD k ⟨#[]⟩).size ≤ S.size by
    rw [hS, List.getD, List.getElem?_eq_getElem h]
    exact word_le W _ (List.getElem_mem _)))
  obtain ⟨m, hm⟩ : ∃ m, m = W.length := ⟨_, rfl⟩
  have hm0 : 1 ≤ m := by rw [hm]; exact List.length_pos_iff.2 hWn
  rw [← hm] at HSP
  have HM := hid hm
  clear hT hWn hno2 hS hm hno
  go_enter Tryz.func8, Tryz.ntmps8
  go_wp2_with fail
  refine (HSP.out _).mono ?_
  rintro e w1 ⟨rfl, hw⟩
  have hsl := SL.new (w.alloc (.cells #[.int .i64 0, .int .i64 0, .int .i64 0, .int .i64 0, .int .i64 0, .int .i64 0] 24)) W 9
  have b1 := belA (w.alloc (.cells #[.int .i64 0, .int .i64 0, .int .i64 0, .int .i64 0, .int .i64 0, .int .i64 0] 24)) (.cells (W.map Value.string).toArray 9)
  rw [← hw] at b1 hsl
  have HX := hid (HX0.out.bel b1)
  have HZ := hid (HZ0.out.to b1)
  have hL : w.heap.size < (w.alloc (.cells #[.int .i64 0, .int .i64 0, .int .i64 0, .int .i64 0, .int .i64 0, .int .i64 0] 24)).heap.size := by simp
  have hL2 := hsl.1
  have HSL := hid hsl
  clear hw b1 hsl HX0 HZ0 HSP
  generalize (w.alloc (.cells #[.int .i64 0, .int .i64 0, .int .i64 0, .int .i64 0, .int .i64 0, .int .i64 0] 24)).heap.size = L at *
  have c0 := HSL.out.2 0 (by rw [← HM.out]; omega)
  obtain ⟨x0, hx0⟩ : ∃ x, x = W.getD 0 ⟨#[]⟩ := ⟨_, rfl⟩
  rw [← hx0] at c0
  have hx0s : x0.size ≤ S.size := by rw [hx0]; exact HWS.out 0 (by rw [← HM.out]; omega)
  clear hx0
  have hm1 : (1 : Int) ≤ (m : Int) := by omega
  go_wp2_with fail
  refine (firstG_w x0 _ (HT.out.t.below HZ.out)).mono ?_
  rintro e w2 ⟨⟨y, hy, rfl⟩, b2⟩
  replace HX := hid (HX.out.bel b2)
  replace HSL := hid (HSL.out.below b2)
  replace HZ := hid (HZ.out.to b2)
  have hL3 : L < w2.heap.size := Nat.lt_of_lt_of_le hL2 b2.size
  clear b2 c0
  have hS0 : (∃ k z : Nat, 1 ≤ k ∧ k ≤ 20 ∧ firstS k z = x0) → ¬ S.size = 0 := by
    rintro ⟨k, z, h1, h2, rfl⟩
    have := firstS_pos (z := z) h1 h2
    omega
  rcases hy.out with ⟨on, z, hon1, hon2, hz, hfit, hfst, rfl⟩ | ⟨_, rfl⟩
  rotate_left
  · clear hy hS0
    have HB5 := hid (D6.new w2 0 0 0 0 0 0 24)
    have b3 := belA w2 (.cells #[.int .i64 0, .int .i64 0, .int .i64 0, .int .i64 0, .int .i64 0, .int .i64 0] 24)
    have HX3 := hid (HX.out.bel b3)
    have HSL3 := hid (HSL.out.below b3)
    have HZ3 := hid (HZ.out.to b3)
    clear b3 HX HSL HZ
    go_wp2_with fail
    generalize w2.alloc (.cells #[.int .i64 0, .int .i64 0, .int .i64 0, .int .i64 0, .int .i64 0, .int .i64 0] 24) = w3 at *
    obtain ⟨B, hB⟩ : ∃ B, B = w2.heap.size := ⟨_, rfl⟩
    rw [← hB] at hL3 HB5 ⊢
    have HBE := hid hB
    have hwB : w.heap.size < B := by omega
    clear hB hL2
    refine (parts_w _ _).mono ?_
    rintro e w' ⟨rfl, hw⟩
    rw [hw]
    clear hw w'
    obtain ⟨pb, hpb⟩ : ∃ pb : ByteArray, pb = partsS 0 := ⟨_, rfl⟩
    have hp3 : (pb.size : Int) ≤ 3 := by have := parts_size 0; rw [hpb]; omega
    rw [← hpb]
    clear hpb
    obtain ⟨c0, c1, c2, c3, c4, c5, cl, cf⟩ := HB5.out
    obtain ⟨r0, r1, r2, r3, r4, r5, rl, rf⟩ := HX3.out
    go_wp2_with fail
    refine bodyPost_ret (v := .tuple #[.agg #[.int .i64 0, .int .i64 0, .int .i64 0, .int .i64 0, .int .i64 0, .int .i64 0], .bool false]) (by simp [results, Tryz.results8, go_sem, r0, r1, r2, r3, r4, r5]) rfl ⟨rfl, ?_⟩
    exact stD_below HZ3.out (Nat.le_refl _) 0 0 0 0 0 0
  · clear hy
    have hse := hS0 ⟨on, z, hon1, hon2, hfst⟩
    clear hS0 hfst hfit
    have HB5 := hid (D6.new w2 (on : Int) 0 (-1) 0 0 (z : Int) 24)
    have b3 := belA w2 (.cells #[.int .i64 (on : Int), .int .i64 0, .int .i64 (-1), .int .i64 0, .int .i64 0, .int .i64 (z : Int)] 24)
    have HX3 := hid (HX.out.bel b3)
    have HSL3 := hid (HSL.out.below b3)
    have HZ3 := hid (HZ.out.to b3)
    clear b3 HX HSL HZ
    go_wp2_with fail
    generalize w2.alloc (.cells #[.int .i64 (on : Int), .int .i64 0, .int .i64 (-1), .int .i64 0, .int .i64 0, .int .i64 (z : Int)] 24) = w3 at *
    obtain ⟨B, hB⟩ : ∃ B, B = w2.heap.size := ⟨_, rfl⟩
    rw [← hB] at hL3 HB5 ⊢
    have HBE := hid hB
    have hwB : w.heap.size < B := by omega
    clear hB hL2
    refine (parts_w _ _).mono ?_
    rintro e w' ⟨rfl, hw⟩
    rw [hw]
    clear hw w'
    obtain ⟨pb, hpb⟩ : ∃ pb : ByteArray, pb = partsS (on : Int) := ⟨_, rfl⟩
    have hp3 : (pb.size : Int) ≤ 3 := by have := parts_size (on : Int); rw [hpb]; omega
    have HPB := hid (show ∀ k (h : k < pb.size), (pb[k]'h).toNat = 100 ∨ (pb[k]'h).toNat = 120 ∨ (pb[k]'h).toNat = 111 ∨ (pb[k]'h).toNat = 99 by rw [hpb]; exact parts_byte _)
    rw [← hpb]
    clear hpb
    have hne : ((on : Int) == 0) = false := by simp; omega
    by_cases hlen : m = pb.size + 1
    rotate_left
    · have hlm : ((m : Int) != (pb.size : Int) + 1) = true := by simp; omega
      obtain ⟨c0, c1, c2, c3, c4, c5, cl, cf⟩ := HB5.out
      obtain ⟨r0, r1, r2, r3, r4, r5, rl, rf⟩ := HX3.out
      go_wp2_with fail
      refine bodyPost_ret (v := .tuple #[.agg #[.int .i64 0, .int .i64 0, .int .i64 0, .int .i64 0, .int .i64 0, .int .i64 0], .bool false]) (by simp [results, Tryz.results8, go_sem, r0, r1, r2, r3, r4, r5]) rfl ⟨rfl, ?_⟩
      exact stD_below HZ3.out (Nat.le_refl _) 0 0 0 0 0 0
    have hlm : ((m : Int) != (pb.size : Int) + 1) = false := by simp; omega
    have HML := hid hlen
    clear hlen hm0
    obtain ⟨c0, c1, c2, c3, c4, c5, cl, cf⟩ := HB5.out
    go_wp2_with fail
    clear c0 c1 c2 c3 c4 c5 cl cf hne hlm hm1
    go_loopw [7] (fun i_ wr => ∃ (k : Nat) (d' s' f' i' : Int), k ≤ pb.size ∧ i_ = .int .i64 k ∧ Hid (Below w.heap.size w wr) ∧ Hid (D6 wr w.heap.size 0 0 0 0 0 0) ∧ Hid (SL wr L W) ∧ Hid (D6 wr B (on : Int) d' s' f' i' (z : Int))) (fun i_ _ => pb.size - (intOf i_).toNat)
    case atStart => exact ⟨0, 0, -1, 0, 0, Nat.zero_le _, rfl, HZ3, HX3, HSL3, HB5⟩
    case round =>
      clear HZ3 HX3 HSL3 HB5
      obtain ⟨k, d', s', f', i', hk, rfl, HZ, HX, HSL, HB⟩ := hrel
      by_cases hlt : k < pb.size
      · have hk0 : (0 : Int) ≤ (k : Int) := by omega
        have hml := HML.out
        have hlt' : (k : Int) < (pb.size : Int) := by omega
        obtain ⟨k1, hk1⟩ : ∃ k1, k1 = k + 1 := ⟨_, rfl⟩
        have hk1a : (0 : Int) ≤ (k1 : Int) := by omega
        have hk1b : (k1 : Int) < (m : Int) := by omega
        have hw6 : IntKind.i64.wrap ((k : Int) + 1) = (k1 : Int) := by rw [IntKind.wrap_i64]; omega
        have ck := HSL.out.2 k1 (by rw [← HM.out]; omega)
        have hxz := HWS.out k1 (by rw [← HM.out]; omega)
        have HK1 := hid hk1
        clear hk1 hml
        obtain ⟨x, hx⟩ : ∃ x, x = W.getD k1 ⟨#[]⟩ := ⟨_, rfl⟩
        rw [← hx] at ck hxz
        clear hx
        have hxz : x.size ≤ 281474976710656 := by omega
        obtain ⟨p, hp⟩ : ∃ p, p = (pb[k]'hlt).toNat := ⟨_, rfl⟩
        have hpA := HPB.out k hlt
        rw [← hp] at hpA
        have HPA := hid hpA
        have hbk : (pb[k]'hlt).toNat = p := hp.symm
        clear hp hpA
        have CK := hid ck
        obtain ⟨b0, b1, b2, b3, b4, b5, bl, bf⟩ := HB.out
        go_wp2_with fail
        refine wp_region_held_drew (S := (fun w' => w'.cell? ⟨B, 0, none⟩ = some (.int .i64 (on : Int)) ∧ w'.cell? ⟨B, 1, none⟩ = some (.int .i64 d') ∧ w'.cell? ⟨B, 2, none⟩ = some (.int .i64 s') ∧ w'.cell? ⟨B, 3, none⟩ = some (.int .i64 f') ∧ w'.cell? ⟨B, 4, none⟩ = some (.int .i64 i') ∧ w'.cell? ⟨B, 5, none⟩ = some (.int .i64 (z : Int)) ∧ w'.cell? ⟨L, k1, none⟩ = some (.string x))) (by kernel_rfl) (by exact ⟨HB.out.c0, HB.out.c1, HB.out.c2, HB.out.c3, HB.out.c4, HB.out.c5, ck⟩) (fun hHeld => ?_)
        have bd : Below wr.heap.size wr wr.drew := (Below.refl _ _).drew
        clear ck
        replace HX := hid (HX.out.bel bd)
        replace CK := hid ((bd.cell (p := ⟨L, k1, none⟩) HSL.out.1).trans CK.out)
        replace HSL := hid (HSL.out.below bd)
        replace HB := hid (HB.out.bel bd)
        replace HZ := hid (HZ.out.to bd)
        clear bd
        generalize wr.drew = W1 at *
        refine wpAnyH_take (i := 0) (oi := ?oi1) (v := ?v1) (fuel := 15) ?hi1 ?hs1 ?hf1 ?hr1 ?hq1 (Or.inl ⟨?hw1, ?hy1⟩) hHeld ?rest1
        case hi1 => rw [List.getElem?_toArray]; rfl
        case hq1 => exact fun _ _ _ h => h
        case hs1 | hf1 | hr1 => kernel_rfl
        case hw1 => rfl
        case hy1 => (intro w1 hSw; (try dsimp only at hSw); go_simp; try with_reducible rfl)
        (try simp only [Act.put, List.setIfInBounds_toArray, List.set_cons_zero, List.set_cons_succ])
        refine wpAnyH_take (i := 1) (oi := ?oi2) (v := ?v2) (fuel := 14) ?hi2 ?hs2 ?hf2 ?hr2 ?hq2 (Or.inl ⟨?hw2, ?hy2⟩) hHeld ?rest2
        case hi2 => rw [List.getElem?_toArray]; rfl
        case hq2 => exact fun _ _ _ h => h
        case hs2 | hf2 | hr2 => kernel_rfl
        case hw2 => rfl
        case hy2 => (intro w1 hSw; (try dsimp only at hSw); go_simp; try with_reducible rfl)
        (try simp only [Act.put, List.setIfInBounds_toArray, List.set_cons_zero, List.set_cons_succ])
        refine wpAnyH_take (i := 2) (oi := ?oi3) (v := ?v3) (fuel := 13) ?hi3 ?hs3 ?hf3 ?hr3 ?hq3 (Or.inl ⟨?hw3, ?hy3⟩) hHeld ?rest3
        case hi3 => rw [List.getElem?_toArray]; rfl
        case hq3 => exact fun _ _ _ h => h
        case hs3 | hf3 | hr3 => kernel_rfl
        case hw3 => rfl
        case hy3 => (intro w1 hSw; (try dsimp only at hSw); go_simp; try with_reducible rfl)
        (try simp only [Act.put, List.setIfInBounds_toArray, List.set_cons_zero, List.set_cons_succ])
        refine wpAnyH_take (i := 3) (oi := ?oi4) (v := .int .u8 (p : Int)) (fuel := 12) ?hi4 ?hs4 ?hf4 ?hr4 ?hq4 (Or.inl ⟨?hw4, ?hy4⟩) hHeld ?rest4
        case hi4 => rw [List.getElem?_toArray]; rfl
        case hq4 => exact fun _ _ _ h => h
        case hs4 | hf4 | hr4 => kernel_rfl
        case hw4 => rfl
        case hy4 => (intro w1 hSw; (try dsimp only at hSw); go_simp; try (first | rfl | simp [hbk]))
        (try simp only [Act.put, List.setIfInBounds_toArray, List.set_cons_zero, List.set_cons_succ])
        refine wpAnyH_take (i := 4) (oi := ?oi5) (v := ?v5) (fuel := 11) ?hi5 ?hs5 ?hf5 ?hr5 ?hq5 (Or.inl ⟨?hw5, ?hy5⟩) hHeld ?rest5
        case hi5 => rw [List.getElem?_toArray]; rfl
        case hq5 => exact fun _ _ _ h => h
        case hs5 | hf5 | hr5 => kernel_rfl
        case hw5 => rfl
        case hy5 => (intro w1 hSw; (try dsimp only at hSw); go_simp; try with_reducible rfl)
        (try simp only [Act.put, List.setIfInBounds_toArray, List.set_cons_zero, List.set_cons_succ])
        refine wpAnyH_take (i := 5) (oi := ?oi6) (v := ?v6) (fuel := 10) ?hi6 ?hs6 ?hf6 ?hr6 ?hq6 (Or.inl ⟨?hw6, ?hy6⟩) hHeld ?rest6
        case hi6 => rw [List.getElem?_toArray]; rfl
        case hq6 => exact fun _ _ _ h => h
        case hs6 | hf6 | hr6 => kernel_rfl
        case hw6 => rfl
        case hy6 => (intro w1 hSw; (try dsimp only at hSw); go_simp; try with_reducible rfl)
        (try simp only [Act.put, List.setIfInBounds_toArray, List.set_cons_zero, List.set_cons_succ])
        refine wpAnyH_take (i := 6) (oi := ?oi7) (v := .int .i64 (k1 : Int)) (fuel := 9) ?hi7 ?hs7 ?hf7 ?hr7 ?hq7 (Or.inl ⟨?hw7, ?hy7⟩) hHeld ?rest7
        case hi7 => rw [List.getElem?_toArray]; rfl
        case hq7 => exact fun _ _ _ h => h
        case hs7 | hf7 | hr7 => kernel_rfl
        case hw7 => rfl
        case hy7 => (intro w1 hSw; (try dsimp only at hSw); go_simp; try simp [hw6])
        (try simp only [Act.put, List.setIfInBounds_toArray, List.set_cons_zero, List.set_cons_succ])
        refine wpAnyH_take (i := 7) (oi := ?oi8) (v := ?v8) (fuel := 8) ?hi8 ?hs8 ?hf8 ?hr8 ?hq8 (Or.inl ⟨?hw8, ?hy8⟩) hHeld ?rest8
        case hi8 => rw [List.getElem?_toArray]; rfl
        case hq8 => exact fun _ _ _ h => h
        case hs8 | hf8 | hr8 => kernel_rfl
        case hw8 => rfl
        case hy8 => (intro w1 hSw; (try dsimp only at hSw); go_simp; try with_reducible rfl)
        (try simp only [Act.put, List.setIfInBounds_toArray, List.set_cons_zero, List.set_cons_succ])
        refine wpAnyH_take (i := 8) (oi := ?oi9) (v := ?v9) (fuel := 7) ?hi9 ?hs9 ?hf9 ?hr9 ?hq9 (Or.inl ⟨?hw9, ?hy9⟩) hHeld ?rest9
        case hi9 => rw [List.getElem?_toArray]; rfl
        case hq9 => exact fun _ _ _ h => h
        case hs9 | hf9 | hr9 => kernel_rfl
        case hw9 => rfl
        case hy9 => (intro w1 hSw; (try dsimp only at hSw); go_simp; try with_reducible rfl)
        (try simp only [Act.put, List.setIfInBounds_toArray, List.set_cons_zero, List.set_cons_succ])
        refine wpAnyH_ready (fuel := 6) (rs := [9, 13]) (by kernel_rfl) (by simp) ?_
        refine AllReadyH.cons (o := ?oi10) ?hi10 (fun K hK => ?st10) ?mo10
        case hi10 => rw [List.getElem?_toArray]; rfl
        case st10 =>
          go_simp
          refine (gpartA p HPA.out _ _ _ _ _ _ x hxz _ (HT.out.below HZ.out)).mono ?_
          rintro ee wr9 ⟨⟨a1, a2, a3, a4, q, rfl⟩, bq⟩
          replace HX := hid (HX.out.bel bq)
          replace CK := hid ((bq.cell (p := ⟨L, k1, none⟩) HSL.out.1).trans CK.out)
          replace HSL := hid (HSL.out.below bq)
          replace HB := hid (HB.out.bel bq)
          replace HZ := hid (HZ.out.to bq)
          clear bq
          go_wp2_with fail
          refine hK.out _ _ ?hS10 (fun hHeld => ?re10)
          case hS10 => exact ⟨HB.out.c0, HB.out.c1, HB.out.c2, HB.out.c3, HB.out.c4, HB.out.c5, CK.out⟩
          clear hK K
          (try simp only [Act.put, List.setIfInBounds_toArray, List.set_cons_zero, List.set_cons_succ])
          refine wpAnyH_take (i := 10) (oi := ?oi11) (v := ?v11) (fuel := 5) ?hi11 ?hs11 ?hf11 ?hr11 ?hq11 (Or.inl ⟨?hw11, ?hy11⟩) hHeld ?rest11
          case hi11 => rw [List.getElem?_toArray]; rfl
          case hq11 => exact fun _ _ _ h => h
          case hs11 | hf11 | hr11 => kernel_rfl
          case hw11 => rfl
          case hy11 => (intro w1 hSw; (try dsimp only at hSw); go_simp; try with_reducible rfl)
          (try simp only [Act.put, List.setIfInBounds_toArray, List.set_cons_zero, List.set_cons_succ])
          refine wpAnyH_take (i := 11) (oi := ?oi12) (v := ?v12) (fuel := 4) ?hi12 ?hs12 ?hf12 ?hr12 ?hq12 (Or.inl ⟨?hw12, ?hy12⟩) hHeld ?rest12
          case hi12 => rw [List.getElem?_toArray]; rfl
          case hq12 => exact fun _ _ _ h => h
          case hs12 | hf12 | hr12 => kernel_rfl
          case hw12 => rfl
          case hy12 => (intro w1 hSw; (try dsimp only at hSw); go_simp; try with_reducible rfl)
          (try simp only [Act.put, List.setIfInBounds_toArray, List.set_cons_zero, List.set_cons_succ])
          refine wpAnyH_take (i := 12) (oi := ?oi13) (v := ?v13) (fuel := 3) ?hi13 ?hs13 ?hf13 ?hr13 ?hq13 (Or.inl ⟨?hw13, ?hy13⟩) hHeld ?rest13
          case hi13 => rw [List.getElem?_toArray]; rfl
          case hq13 => exact fun _ _ _ h => h
          case hs13 | hf13 | hr13 => kernel_rfl
          case hw13 => rfl
          case hy13 => (intro w1 hSw; (try dsimp only at hSw); go_simp; try with_reducible rfl)
          (try simp only [Act.put, List.setIfInBounds_toArray, List.set_cons_zero, List.set_cons_succ])
          refine wpAnyH_ready (fuel := 2) (rs := [13]) (by kernel_rfl) (by simp) ?_
          refine AllReadyH.cons (o := ?oi14) ?hi14 (fun K hK => ?st14) AllReadyH.nil
          case hi14 => rw [List.getElem?_toArray]; rfl
          go_simp
          have H8 := hid (D6.new wr9 0 0 0 0 0 0 24)
          have bA := belA wr9 (.cells #[.int .i64 0, .int .i64 0, .int .i64 0, .int .i64 0, .int .i64 0, .int .i64 0] 24)
          have lG1 := HX.out.lt
          have lG2 := HB.out.lt
          have lG3 := HSL.out.1
          replace HX := hid (HX.out.bel bA)
          replace CK := hid ((bA.cell (p := ⟨L, k1, none⟩) HSL.out.1).trans CK.out)
          replace HSL := hid (HSL.out.below bA)
          replace HB := hid (HB.out.bel bA)
          replace HZ := hid (HZ.out.to bA)
          clear bA
          generalize wr9.alloc (.cells #[.int .i64 0, .int .i64 0, .int .i64 0, .int .i64 0, .int .i64 0, .int .i64 0] 24) = wr13 at *
          generalize wr9.heap.size = G at *
          refine hK.out _ _ ?hS14 (fun hHeld => ?re14)
          case hS14 => exact ⟨HB.out.c0, HB.out.c1, HB.out.c2, HB.out.c3, HB.out.c4, HB.out.c5, CK.out⟩
          clear hK K
          (try simp only [Act.put, List.setIfInBounds_toArray, List.set_cons_zero, List.set_cons_succ])
          refine wpAnyH_ready (fuel := 1) (rs := [14]) (by kernel_rfl) (by simp) ?_
          refine AllReadyH.cons (o := ?oi15) ?hi15 (fun K hK => ?st15) AllReadyH.nil
          case hi15 => rw [List.getElem?_toArray]; rfl
          obtain ⟨e0, e1, e2, e3, e4, e5, el, ef⟩ := H8.out
          go_simp
          clear e0 e1 e2 e3 e4 e5 el ef
          have HX9 : D6 ((((((wr13.setCell ⟨G, 0, none⟩ (.int .i64 (on : Int))).setCell ⟨G, 1, none⟩ (.int .i64 a1)).setCell ⟨G, 2, none⟩ (.int .i64 a2)).setCell ⟨G, 3, none⟩ (.int .i64 a3)).setCell ⟨G, 4, none⟩ (.int .i64 a4)).setCell ⟨G, 5, none⟩ (.int .i64 (z : Int))) w.heap.size 0 0 0 0 0 0 := D6.stO HX.out (by omega) (on : Int) a1 a2 a3 a4 (z : Int)
          have HSL9 : SL ((((((wr13.setCell ⟨G, 0, none⟩ (.int .i64 (on : Int))).setCell ⟨G, 1, none⟩ (.int .i64 a1)).setCell ⟨G, 2, none⟩ (.int .i64 a2)).setCell ⟨G, 3, none⟩ (.int .i64 a3)).setCell ⟨G, 4, none⟩ (.int .i64 a4)).setCell ⟨G, 5, none⟩ (.int .i64 (z : Int))) L W := SL.stO HSL.out (by omega) (on : Int) a1 a2 a3 a4 (z : Int)
          have HB9 : D6 ((((((wr13.setCell ⟨G, 0, none⟩ (.int .i64 (on : Int))).setCell ⟨G, 1, none⟩ (.int .i64 a1)).setCell ⟨G, 2, none⟩ (.int .i64 a2)).setCell ⟨G, 3, none⟩ (.int .i64 a3)).setCell ⟨G, 4, none⟩ (.int .i64 a4)).setCell ⟨G, 5, none⟩ (.int .i64 (z : Int))) B (on : Int) d' s' f' i' (z : Int) := D6.stO HB.out (by omega) (on : Int) a1 a2 a3 a4 (z : Int)
          have H89 : D6 ((((((wr13.setCell ⟨G, 0, none⟩ (.int .i64 (on : Int))).setCell ⟨G, 1, none⟩ (.int .i64 a1)).setCell ⟨G, 2, none⟩ (.int .i64 a2)).setCell ⟨G, 3, none⟩ (.int .i64 a3)).setCell ⟨G, 4, none⟩ (.int .i64 a4)).setCell ⟨G, 5, none⟩ (.int .i64 (z : Int))) G (on : Int) a1 a2 a3 a4 (z : Int) := D6.st H8.out (on : Int) a1 a2 a3 a4 (z : Int)
          have HZ9 : Below w.heap.size w ((((((wr13.setCell ⟨G, 0, none⟩ (.int .i64 (on : Int))).setCell ⟨G, 1, none⟩ (.int .i64 a1)).setCell ⟨G, 2, none⟩ (.int .i64 a2)).setCell ⟨G, 3, none⟩ (.int .i64 a3)).setCell ⟨G, 4, none⟩ (.int .i64 a4)).setCell ⟨G, 5, none⟩ (.int .i64 (z : Int))) := stD_below HZ.out (by omega) (on : Int) a1 a2 a3 a4 (z : Int)
          have CK9 : (((((((wr13.setCell ⟨G, 0, none⟩ (.int .i64 (on : Int))).setCell ⟨G, 1, none⟩ (.int .i64 a1)).setCell ⟨G, 2, none⟩ (.int .i64 a2)).setCell ⟨G, 3, none⟩ (.int .i64 a3)).setCell ⟨G, 4, none⟩ (.int .i64 a4)).setCell ⟨G, 5, none⟩ (.int .i64 (z : Int)))).cell? ⟨L, k1, none⟩ = some (.string x) := ((World.cell?_setCell_other _ _ _ _ (by intro e; injection e; omega)).trans ((World.cell?_setCell_other _ _ _ _ (by intro e; injection e; omega)).trans ((World.cell?_setCell_other _ _ _ _ (by intro e; injection e; omega)).trans ((World.cell?_setCell_other _ _ _ _ (by intro e; injection e; omega)).trans ((World.cell?_setCell_other _ _ _ _ (by intro e; injection e; omega)).trans ((World.cell?_setCell_other _ _ _ _ (by intro e; injection e; omega)).trans CK.out))))))
          clear HX HSL HB H8 HZ CK
          generalize ((((((wr13.setCell ⟨G, 0, none⟩ (.int .i64 (on : Int))).setCell ⟨G, 1, none⟩ (.int .i64 a1)).setCell ⟨G, 2, none⟩ (.int .i64 a2)).setCell ⟨G, 3, none⟩ (.int .i64 a3)).setCell ⟨G, 4, none⟩ (.int .i64 a4)).setCell ⟨G, 5, none⟩ (.int .i64 (z : Int))) = wr14 at *
          have HX := hid HX9
          have HSL := hid HSL9
          have HB := hid HB9
          have H8 := hid H89
          have HZ := hid HZ9
          have CK := hid CK9
          clear HX9 HSL9 HB9 H89 HZ9 CK9
          refine hK.out _ _ ?hS15 (fun hHeld => ?re15)
          case hS15 => exact ⟨HB.out.c0, HB.out.c1, HB.out.c2, HB.out.c3, HB.out.c4, HB.out.c5, CK.out⟩
          clear hK K
          (try simp only [Act.put, List.setIfInBounds_toArray, List.set_cons_zero, List.set_cons_succ])
          refine wpAnyH_take (i := 15) (oi := ?oi16) (v := ?v16) (fuel := 0) ?hi16 ?hs16 ?hf16 ?hr16 ?hq16 (Or.inl ⟨?hw16, ?hy16⟩) hHeld ?rest16
          case hi16 => rw [List.getElem?_toArray]; rfl
          case hq16 => exact fun _ _ _ h => h
          case hs16 | hf16 | hr16 => kernel_rfl
          case hw16 => rfl
          case hy16 => (intro w1 hSw; (try dsimp only at hSw); go_simp; try with_reducible rfl)
          (try simp only [Act.put, List.setIfInBounds_toArray, List.set_cons_zero, List.set_cons_succ])
          refine wpAnyH_done (by kernel_rfl) ?_ _
          clear hHeld hbk hw6
          cases q
          · obtain ⟨e0, e1, e2, e3, e4, e5, el, ef⟩ := H8.out
            obtain ⟨b0, b1, b2, b3, b4, b5, bl, bf⟩ := HB.out
            obtain ⟨r0, r1, r2, r3, r4, r5, rl, rf⟩ := HX.out
            go_wp2_with fail
            refine bodyPost_ret (v := .tuple #[.agg #[.int .i64 0, .int .i64 0, .int .i64 0, .int .i64 0, .int .i64 0, .int .i64 0], .bool false]) (by simp [results, Tryz.results8, go_sem, r0, r1, r2, r3, r4, r5]) rfl ⟨rfl, ?_⟩
            exact stD_below HZ.out (Nat.le_refl _) 0 0 0 0 0 0
          · obtain ⟨e0, e1, e2, e3, e4, e5, el, ef⟩ := H8.out
            obtain ⟨b0, b1, b2, b3, b4, b5, bl, bf⟩ := HB.out
            go_wp2_with fail
            go_roundw
            case rel => exact ⟨k + 1, a1, a2, a3, a4, by omega, by go_num, hid (stD_below HZ.out (by omega) (on : Int) a1 a2 a3 a4 (z : Int)), hid (D6.stO HX.out (by omega) (on : Int) a1 a2 a3 a4 (z : Int)), hid (SL.stO HSL.out (by omega) (on : Int) a1 a2 a3 a4 (z : Int)), hid (D6.st HB.out (on : Int) a1 a2 a3 a4 (z : Int))⟩
            case measure => simp [intOf]; omega
        refine AllReadyH.cons (o := ?oi17) ?hi17 (fun K hK => ?st17) ?mo17
        case hi17 => rw [List.getElem?_toArray]; rfl
        case st17 =>
          go_simp
          have H8 := hid (D6.new W1 0 0 0 0 0 0 24)
          have bA := belA W1 (.cells #[.int .i64 0, .int .i64 0, .int .i64 0, .int .i64 0, .int .i64 0, .int .i64 0] 24)
          have lG1 := HX.out.lt
          have lG2 := HB.out.lt
          have lG3 := HSL.out.1
          replace HX := hid (HX.out.bel bA)
          replace CK := hid ((bA.cell (p := ⟨L, k1, none⟩) HSL.out.1).trans CK.out)
          replace HSL := hid (HSL.out.below bA)
          replace HB := hid (HB.out.bel bA)
          replace HZ := hid (HZ.out.to bA)
          clear bA
          generalize W1.alloc (.cells #[.int .i64 0, .int .i64 0, .int .i64 0, .int .i64 0, .int .i64 0, .int .i64 0] 24) = wr13 at *
          generalize W1.heap.size = G at *
          refine hK.out _ _ ?hS17 (fun hHeld => ?re17)
          case hS17 => exact ⟨HB.out.c0, HB.out.c1, HB.out.c2, HB.out.c3, HB.out.c4, HB.out.c5, CK.out⟩
          clear hK K
          (try simp only [Act.put, List.setIfInBounds_toArray, List.set_cons_zero, List.set_cons_succ])
          refine wpAnyH_ready (fuel := 5) (rs := [9]) (by kernel_rfl) (by simp) ?_
          refine AllReadyH.cons (o := ?oi18) ?hi18 (fun K hK => ?st18) AllReadyH.nil
          case hi18 => rw [List.getElem?_toArray]; rfl
          go_simp
          refine (gpartA p HPA.out _ _ _ _ _ _ x hxz _ (HT.out.below HZ.out)).mono ?_
          rintro ee wr9 ⟨⟨a1, a2, a3, a4, q, rfl⟩, bq⟩
          replace HX := hid (HX.out.bel bq)
          replace CK := hid ((bq.cell (p := ⟨L, k1, none⟩) HSL.out.1).trans CK.out)
          replace HSL := hid (HSL.out.below bq)
          replace HB := hid (HB.out.bel bq)
          replace H8 := hid (H8.out.bel bq)
          replace HZ := hid (HZ.out.to bq)
          clear bq
          go_wp2_with fail
          refine hK.out _ _ ?hS18 (fun hHeld => ?re18)
          case hS18 => exact ⟨HB.out.c0, HB.out.c1, HB.out.c2, HB.out.c3, HB.out.c4, HB.out.c5, CK.out⟩
          clear hK K
          (try simp only [Act.put, List.setIfInBounds_toArray, List.set_cons_zero, List.set_cons_succ])
          refine wpAnyH_take (i := 10) (oi := ?oi19) (v := ?v19) (fuel := 4) ?hi19 ?hs19 ?hf19 ?hr19 ?hq19 (Or.inl ⟨?hw19, ?hy19⟩) hHeld ?rest19
          case hi19 => rw [List.getElem?_toArray]; rfl
          case hq19 => exact fun _ _ _ h => h
          case hs19 | hf19 | hr19 => kernel_rfl
          case hw19 => rfl
          case hy19 => (intro w1 hSw; (try dsimp only at hSw); go_simp; try with_reducible rfl)
          (try simp only [Act.put, List.setIfInBounds_toArray, List.set_cons_zero, List.set_cons_succ])
          refine wpAnyH_take (i := 11) (oi := ?oi20) (v := ?v20) (fuel := 3) ?hi20 ?hs20 ?hf20 ?hr20 ?hq20 (Or.inl ⟨?hw20, ?hy20⟩) hHeld ?rest20
          case hi20 => rw [List.getElem?_toArray]; rfl
          case hq20 => exact fun _ _ _ h => h
          case hs20 | hf20 | hr20 => kernel_rfl
          case hw20 => rfl
          case hy20 => (intro w1 hSw; (try dsimp only at hSw); go_simp; try with_reducible rfl)
          (try simp only [Act.put, List.setIfInBounds_toArray, List.set_cons_zero, List.set_cons_succ])
          refine wpAnyH_take (i := 12) (oi := ?oi21) (v := ?v21) (fuel := 2) ?hi21 ?hs21 ?hf21 ?hr21 ?hq21 (Or.inl ⟨?hw21, ?hy21⟩) hHeld ?rest21
          case hi21 => rw [List.getElem?_toArray]; rfl
          case hq21 => exact fun _ _ _ h => h
          case hs21 | hf21 | hr21 => kernel_rfl
          case hw21 => rfl
          case hy21 => (intro w1 hSw; (try dsimp only at hSw); go_simp; try with_reducible rfl)
          (try simp only [Act.put, List.setIfInBounds_toArray, List.set_cons_zero, List.set_cons_succ])
          refine wpAnyH_ready (fuel := 1) (rs := [14]) (by kernel_rfl) (by simp) ?_
          refine AllReadyH.cons (o := ?oi22) ?hi22 (fun K hK => ?st22) AllReadyH.nil
          case hi22 => rw [List.getElem?_toArray]; rfl
          obtain ⟨e0, e1, e2, e3, e4, e5, el, ef⟩ := H8.out
          go_simp
          clear e0 e1 e2 e3 e4 e5 el ef
          have HX9 : D6 ((((((wr9.setCell ⟨G, 0, none⟩ (.int .i64 (on : Int))).setCell ⟨G, 1, none⟩ (.int .i64 a1)).setCell ⟨G, 2, none⟩ (.int .i64 a2)).setCell ⟨G, 3, none⟩ (.int .i64 a3)).setCell ⟨G, 4, none⟩ (.int .i64 a4)).setCell ⟨G, 5, none⟩ (.int .i64 (z : Int))) w.heap.size 0 0 0 0 0 0 := D6.stO HX.out (by omega) (on : Int) a1 a2 a3 a4 (z : Int)
          have HSL9 : SL ((((((wr9.setCell ⟨G, 0, none⟩ (.int .i64 (on : Int))).setCell ⟨G, 1, none⟩ (.int .i64 a1)).setCell ⟨G, 2, none⟩ (.int .i64 a2)).setCell ⟨G, 3, none⟩ (.int .i64 a3)).setCell ⟨G, 4, none⟩ (.int .i64 a4)).setCell ⟨G, 5, none⟩ (.int .i64 (z : Int))) L W := SL.stO HSL.out (by omega) (on : Int) a1 a2 a3 a4 (z : Int)
          have HB9 : D6 ((((((wr9.setCell ⟨G, 0, none⟩ (.int .i64 (on : Int))).setCell ⟨G, 1, none⟩ (.int .i64 a1)).setCell ⟨G, 2, none⟩ (.int .i64 a2)).setCell ⟨G, 3, none⟩ (.int .i64 a3)).setCell ⟨G, 4, none⟩ (.int .i64 a4)).setCell ⟨G, 5, none⟩ (.int .i64 (z : Int))) B (on : Int) d' s' f' i' (z : Int) := D6.stO HB.out (by omega) (on : Int) a1 a2 a3 a4 (z : Int)
          have H89 : D6 ((((((wr9.setCell ⟨G, 0, none⟩ (.int .i64 (on : Int))).setCell ⟨G, 1, none⟩ (.int .i64 a1)).setCell ⟨G, 2, none⟩ (.int .i64 a2)).setCell ⟨G, 3, none⟩ (.int .i64 a3)).setCell ⟨G, 4, none⟩ (.int .i64 a4)).setCell ⟨G, 5, none⟩ (.int .i64 (z : Int))) G (on : Int) a1 a2 a3 a4 (z : Int) := D6.st H8.out (on : Int) a1 a2 a3 a4 (z : Int)
          have HZ9 : Below w.heap.size w ((((((wr9.setCell ⟨G, 0, none⟩ (.int .i64 (on : Int))).setCell ⟨G, 1, none⟩ (.int .i64 a1)).setCell ⟨G, 2, none⟩ (.int .i64 a2)).setCell ⟨G, 3, none⟩ (.int .i64 a3)).setCell ⟨G, 4, none⟩ (.int .i64 a4)).setCell ⟨G, 5, none⟩ (.int .i64 (z : Int))) := stD_below HZ.out (by omega) (on : Int) a1 a2 a3 a4 (z : Int)
          have CK9 : (((((((wr9.setCell ⟨G, 0, none⟩ (.int .i64 (on : Int))).setCell ⟨G, 1, none⟩ (.int .i64 a1)).setCell ⟨G, 2, none⟩ (.int .i64 a2)).setCell ⟨G, 3, none⟩ (.int .i64 a3)).setCell ⟨G, 4, none⟩ (.int .i64 a4)).setCell ⟨G, 5, none⟩ (.int .i64 (z : Int)))).cell? ⟨L, k1, none⟩ = some (.string x) := ((World.cell?_setCell_other _ _ _ _ (by intro e; injection e; omega)).trans ((World.cell?_setCell_other _ _ _ _ (by intro e; injection e; omega)).trans ((World.cell?_setCell_other _ _ _ _ (by intro e; injection e; omega)).trans ((World.cell?_setCell_other _ _ _ _ (by intro e; injection e; omega)).trans ((World.cell?_setCell_other _ _ _ _ (by intro e; injection e; omega)).trans ((World.cell?_setCell_other _ _ _ _ (by intro e; injection e; omega)).trans CK.out))))))
          clear HX HSL HB H8 HZ CK
          generalize ((((((wr9.setCell ⟨G, 0, none⟩ (.int .i64 (on : Int))).setCell ⟨G, 1, none⟩ (.int .i64 a1)).setCell ⟨G, 2, none⟩ (.int .i64 a2)).setCell ⟨G, 3, none⟩ (.int .i64 a3)).setCell ⟨G, 4, none⟩ (.int .i64 a4)).setCell ⟨G, 5, none⟩ (.int .i64 (z : Int))) = wr14 at *
          have HX := hid HX9
          have HSL := hid HSL9
          have HB := hid HB9
          have H8 := hid H89
          have HZ := hid HZ9
          have CK := hid CK9
          clear HX9 HSL9 HB9 H89 HZ9 CK9
          refine hK.out _ _ ?hS22 (fun hHeld => ?re22)
          case hS22 => exact ⟨HB.out.c0, HB.out.c1, HB.out.c2, HB.out.c3, HB.out.c4, HB.out.c5, CK.out⟩
          clear hK K
          (try simp only [Act.put, List.setIfInBounds_toArray, List.set_cons_zero, List.set_cons_succ])
          refine wpAnyH_take (i := 15) (oi := ?oi23) (v := ?v23) (fuel := 0) ?hi23 ?hs23 ?hf23 ?hr23 ?hq23 (Or.inl ⟨?hw23, ?hy23⟩) hHeld ?rest23
          case hi23 => rw [List.getElem?_toArray]; rfl
          case hq23 => exact fun _ _ _ h => h
          case hs23 | hf23 | hr23 => kernel_rfl
          case hw23 => rfl
          case hy23 => (intro w1 hSw; (try dsimp only at hSw); go_simp; try with_reducible rfl)
          (try simp only [Act.put, List.setIfInBounds_toArray, List.set_cons_zero, List.set_cons_succ])
          refine wpAnyH_done (by kernel_rfl) ?_ _
          clear hHeld hbk hw6
          cases q
          · obtain ⟨e0, e1, e2, e3, e4, e5, el, ef⟩ := H8.out
            obtain ⟨b0, b1, b2, b3, b4, b5, bl, bf⟩ := HB.out
            obtain ⟨r0, r1, r2, r3, r4, r5, rl, rf⟩ := HX.out
            go_wp2_with fail
            refine bodyPost_ret (v := .tuple #[.agg #[.int .i64 0, .int .i64 0, .int .i64 0, .int .i64 0, .int .i64 0, .int .i64 0], .bool false]) (by simp [results, Tryz.results8, go_sem, r0, r1, r2, r3, r4, r5]) rfl ⟨rfl, ?_⟩
            exact stD_below HZ.out (Nat.le_refl _) 0 0 0 0 0 0
          · obtain ⟨e0, e1, e2, e3, e4, e5, el, ef⟩ := H8.out
            obtain ⟨b0, b1, b2, b3, b4, b5, bl, bf⟩ := HB.out
            go_wp2_with fail
            go_roundw
            case rel => exact ⟨k + 1, a1, a2, a3, a4, by omega, by go_num, hid (stD_below HZ.out (by omega) (on : Int) a1 a2 a3 a4 (z : Int)), hid (D6.stO HX.out (by omega) (on : Int) a1 a2 a3 a4 (z : Int)), hid (SL.stO HSL.out (by omega) (on : Int) a1 a2 a3 a4 (z : Int)), hid (D6.st HB.out (on : Int) a1 a2 a3 a4 (z : Int))⟩
            case measure => simp [intOf]; omega
        exact AllReadyH.nil
      · obtain rfl : k = pb.size := by omega
        obtain ⟨b0, b1, b2, b3, b4, b5, bl, bf⟩ := HB.out
        go_wp2_with fail
        refine (putI_w _ _ _ _ _ _ _ (HT.out.t.below HZ.out)).mono ?_
        rintro e w5 ⟨⟨y, hy, hye, rfl⟩, b5'⟩
        replace HX := hid (HX.out.bel b5')
        replace HB := hid (HB.out.bel b5')
        replace HZ := hid (HZ.out.to b5')
        clear b0 b1 b2 b3 b4 b5 bl bf b5'
        have hys : ¬ y = S := by
          rw [hye.out]
          unfold linePutS
          split
          · rename_i hk; exact fun e => HNO.out _ _ _ _ _ _ hk e.symm
          · exact fun e => hse (by rw [← e]; rfl)
        have hyb : (y.toList == S.toList) = false := by
          cases hb : (y.toList == S.toList)
          · rfl
          · exact absurd ((str_eq _ _).1 hb) hys
        have hyl : ¬ y.toList = S.toList := fun e => by rw [e] at hyb; simp at hyb
        have hnn : (y.toList != S.toList) = true := by rw [bne, hyb]; rfl
        obtain ⟨b0, b1, b2, b3, b4, b5, bl, bf⟩ := HB.out
        obtain ⟨r0, r1, r2, r3, r4, r5, rl, rf⟩ := HX.out
        go_wp2_with fail
        refine bodyPost_ret (v := .tuple #[.agg #[.int .i64 0, .int .i64 0, .int .i64 0, .int .i64 0, .int .i64 0, .int .i64 0], .bool false]) (by simp [results, Tryz.results8, go_sem, r0, r1, r2, r3, r4, r5]) rfl ⟨rfl, ?_⟩
        exact stD_below HZ.out (Nat.le_refl _) 0 0 0 0 0 0
end
end Go.Proofs.YtbbecofgmodfiaaGreatDoor.G
