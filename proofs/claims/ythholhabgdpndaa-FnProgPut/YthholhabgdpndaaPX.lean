/- Programs and their bytes: what is put is got, and the other way round. -/
import Derived.Test.YthholhabgdpndaaKF
import Derived.Test.YthholhabgdpndaaIM
import Derived.Test.YthholhabgdpndaaFFM
import Derived.Test.YthholhabgdpndaaFIP
import Derived.Test.YthholhabgdpndaaFIG
namespace Go.Proofs.Ythholhabgdpndaa
open Go.RowKit
set_option linter.unusedVariables false
set_option linter.unusedSimpArgs false


theorem ba_ext {a b : ByteArray} (h : a.data.toList = b.data.toList) : a = b := by
  obtain ⟨⟨x⟩⟩ := a
  obtain ⟨⟨y⟩⟩ := b
  simp only at h
  rw [h]
def catL (xs : List I6) : List UInt8 := xs.flatMap fun x => x.put.data.toList
theorem catS_list (xs : List I6) : (catS xs).data.toList = catL xs := by
  have : ∀ (xs : List I6) (s : ByteArray), (xs.foldl (fun s x => s ++ x.put) s).data.toList = s.data.toList ++ catL xs := by
    intro xs
    induction xs with
    | nil => intro s; simp [catL]
    | cons x xs ih =>
      intro s
      rw [List.foldl_cons, ih]
      simp [catL, ByteArray.data_append]
  have h := this xs ⟨#[]⟩
  unfold catS
  rw [h]
  rfl
theorem put_len (x : I6) : x.put.data.toList.length = 8 := by
  rw [Array.length_toList]
  exact put_size x
theorem extract_list (s : ByteArray) (i j : Nat) : (s.extract i j).data.toList = (s.data.toList.drop i).take (j - i) := by
  rw [ByteArray.data_extract, Array.toList_extract, List.extract_eq_take_drop]
theorem catL_at : ∀ (xs : List I6) (k : Nat) (h : k < xs.length), ((catL xs).drop (8 * k)).take 8 = xs[k].put.data.toList
  | [], k, h => by simp at h
  | x :: xs, 0, _ => by
    show ((x.put.data.toList ++ catL xs).drop 0).take 8 = _
    rw [List.drop_zero, List.take_append_of_le_length (by rw [put_len]; omega), List.take_of_length_le (by rw [put_len]; omega)]
    rfl
  | x :: xs, k + 1, h => by
    show ((x.put.data.toList ++ catL xs).drop (8 * (k + 1))).take 8 = _
    rw [List.drop_append, List.drop_of_length_le (by rw [put_len]; omega), List.nil_append, put_len, show 8 * (k + 1) - 8 = 8 * k by omega]
    exact catL_at xs k (by simpa using h)
theorem chunk_cat (xs : List I6) (k : Nat) (h : k < xs.length) : (catS xs).extract (8 * k) (8 * k + 8) = xs[k].put := by
  apply ba_ext
  rw [extract_list, catS_list, show 8 * k + 8 - 8 * k = 8 by omega]
  exact catL_at xs k h
theorem gots_cat (xs : List I6) (hok : ∀ k (h : k < xs.length), xs[k].ok = true) : ∀ k, k ≤ xs.length → gots (catS xs) k = some (xs.take k)
  | 0, _ => by simp [gots]
  | k + 1, h => by
    have h1 := gots_cat xs hok k (by omega)
    have h2 : getI (chunk (catS xs) k) = some xs[k] := by
      unfold chunk
      rw [chunk_cat xs k (by omega)]
      exact get_put (hok k (by omega))
    unfold gots
    rw [h1, h2]
    simp only
    rw [List.take_succ_eq_append_getElem (by omega)]
theorem progG_cat {xs : List I6} (h : formN xs = 0) : progG (catS xs) = some xs := by
  unfold progG
  rw [cat_size, if_pos (by omega), show 8 * xs.length / 8 = xs.length by omega, gots_cat xs (form_ok h) _ (Nat.le_refl _), List.take_length]
  simp only [h, if_true]
theorem catL_snoc (xs : List I6) (x : I6) : catL (xs ++ [x]) = catL xs ++ x.put.data.toList := by simp [catL]
theorem gots_back {s : ByteArray} : ∀ (k : Nat) (xs : List I6), gots s k = some xs → 8 * k ≤ s.size → catL xs = s.data.toList.take (8 * k)
  | 0, xs, h, _ => by
    simp [gots] at h
    subst h
    simp [catL]
  | k + 1, xs, h, hs => by
    unfold gots at h
    split at h
    · rename_i ys y h1 h2
      simp only [Option.some.injEq] at h
      subst h
      have e := (put_of_get h2).2.1
      have e2 : y.put.data.toList = (s.data.toList.drop (8 * k)).take 8 := by
        show (putS y.o y.d y.s y.f y.i y.z).data.toList = _
        rw [e]
        unfold chunk
        rw [extract_list, show 8 * k + 8 - 8 * k = 8 by omega]
      rw [catL_snoc, gots_back k ys h1 (by omega), e2, show 8 * (k + 1) = 8 * k + 8 by omega, List.take_add]
    · cases h
theorem progG_back {s : ByteArray} {xs : List I6} (h : progG s = some xs) : formN xs = 0 ∧ catS xs = s := by
  unfold progG at h
  split at h
  · rename_i h8
    split at h
    · rename_i ys h1
      split at h
      · rename_i hf
        simp only [Option.some.injEq] at h
        subst h
        refine ⟨hf, ba_ext ?_⟩
        rw [catS_list, gots_back _ _ h1 (by omega), List.take_of_length_le]
        have e : s.data.toList.length = s.size := Array.length_toList
        rw [e]; omega
      · cases h
    · cases h
  · cases h
theorem cat_nil {xs : List I6} (h : xs ≠ []) : ¬ (catS xs).toList = [] := by
  rw [ByteArray.toList_eq, catS_list]
  cases xs with
  | nil => exact absurd rfl h
  | cons x xs =>
    intro e
    have := congrArg List.length e
    rw [show catL (x :: xs) = x.put.data.toList ++ catL xs from rfl, List.length_append, put_len] at this
    simp at this
theorem fine_ne {xs : List I6} (h : formN xs = 0) : xs ≠ [] := by
  rintro rfl
  cases h
set_option maxRecDepth 100000 in
set_option maxHeartbeats 4000000 in
theorem sg_w (xs : List I6) (a b : Option Addr) (c d : Nat) (w : World) (ha : ArgRow w a xs) (hb : ArgRow w b xs) (hn : xs.length ≤ 1048576) :
    Calls Try.prog 21 #[.slice a xs.length c, .slice b xs.length d] w fun e w' => e = .returned (.bool true) ∧ Below w.heap.size w w' := by
  have HA := hid ha
  have HB := hid hb
  clear ha hb
  have hn' : (xs.length : Int) ≤ 1048576 := by omega
  go_enter Try.func21, Try.ntmps21
  go_wp2_with fail
  go_loopw [5] (fun i wr => ∃ k : Nat, k ≤ xs.length ∧ i = .int .i64 k ∧ Below w.heap.size w wr) (fun i _ => xs.length - (intOf i).toNat)
  case atStart => exact ⟨0, Nat.zero_le _, rfl, Below.refl _ _⟩
  case round =>
    obtain ⟨k, hk, rfl, hbw⟩ := hrel
    by_cases hlt : k < xs.length
    · have hlt' : (k : Int) < (xs.length : Int) := by omega
      have hk0 : (0 : Int) ≤ (k : Int) := by omega
      obtain ⟨b1, p1, rfl, hb1, hr1⟩ : ∃ b p, a = some ⟨b, p, none⟩ ∧ b < w.heap.size ∧ InsRow w b p xs := by
        rcases HA.out with h | h
        · rw [h] at hlt; simp at hlt
        · exact h
      obtain ⟨b2, p2, rfl, hb2, hr2⟩ : ∃ q p, b = some ⟨q, p, none⟩ ∧ q < w.heap.size ∧ InsRow w q p xs := by
        rcases HB.out with h | h
        · rw [h] at hlt; simp at hlt
        · exact h
      have hz := hbw.size
      have z1 : b1 < wr.heap.size := by omega
      have z2 : b2 < wr.heap.size := by omega
      obtain ⟨h0, h1, h2, h3, h4, h5⟩ := (hr1 k hlt).below hbw hb1
      obtain ⟨g0, g1, g2, g3, g4, g5⟩ := (hr2 k hlt).below hbw hb2
      clear hr1 hr2 HA HB
      generalize xs[k] = x at *
      go_wp2_with fail
      refine wp_region_held_drew (S := (fun w' => w'.cell? ⟨b1, p1 + k * 6, none⟩ = some (.int .i64 x.o) ∧ w'.cell? ⟨b1, p1 + k * 6 + 1, none⟩ = some (.int .i64 x.d) ∧ w'.cell? ⟨b1, p1 + k * 6 + 2, none⟩ = some (.int .i64 x.s) ∧ w'.cell? ⟨b1, p1 + k * 6 + 3, none⟩ = some (.int .i64 x.f) ∧ w'.cell? ⟨b1, p1 + k * 6 + 4, none⟩ = some (.int .i64 x.i) ∧ w'.cell? ⟨b1, p1 + k * 6 + 5, none⟩ = some (.int .i64 x.z) ∧ w'.cell? ⟨b2, p2 + k * 6, none⟩ = some (.int .i64 x.o) ∧ w'.cell? ⟨b2, p2 + k * 6 + 1, none⟩ = some (.int .i64 x.d) ∧ w'.cell? ⟨b2, p2 + k * 6 + 2, none⟩ = some (.int .i64 x.s) ∧ w'.cell? ⟨b2, p2 + k * 6 + 3, none⟩ = some (.int .i64 x.f) ∧ w'.cell? ⟨b2, p2 + k * 6 + 4, none⟩ = some (.int .i64 x.i) ∧ w'.cell? ⟨b2, p2 + k * 6 + 5, none⟩ = some (.int .i64 x.z) ∧ b1 < w'.heap.size ∧ b2 < w'.heap.size)) (by kernel_rfl) (⟨h0, h1, h2, h3, h4, h5, g0, g1, g2, g3, g4, g5, z1, z2⟩) (fun hHeld => ?_)
      replace hbw := hbw.drew
      clear h0 h1 h2 h3 h4 h5 g0 g1 g2 g3 g4 g5 z1 z2
      generalize wr.drew = wr2 at *
      refine wpAnyH_take (i := 0) (oi := ?oi1) (v := ?v1) (fuel := 8) ?hi1 ?hs1 ?hf1 ?hr1 ?hq1 (Or.inl ⟨?hw1, ?hy1⟩) hHeld ?rest1
      case hi1 => rw [List.getElem?_toArray]; rfl
      case hq1 => exact fun _ _ _ h => h
      case hs1 | hf1 | hr1 => kernel_rfl
      case hw1 => rfl
      case hy1 => (intro w1 hSw; (try dsimp only at hSw); go_simp; try with_reducible rfl)
      (try simp only [Act.put, List.setIfInBounds_toArray, List.set_cons_zero, List.set_cons_succ])
      refine wpAnyH_take (i := 1) (oi := ?oi2) (v := ?v2) (fuel := 7) ?hi2 ?hs2 ?hf2 ?hr2 ?hq2 (Or.inl ⟨?hw2, ?hy2⟩) hHeld ?rest2
      case hi2 => rw [List.getElem?_toArray]; rfl
      case hq2 => exact fun _ _ _ h => h
      case hs2 | hf2 | hr2 => kernel_rfl
      case hw2 => rfl
      case hy2 => (intro w1 hSw; (try dsimp only at hSw); go_simp; try with_reducible rfl)
      (try simp only [Act.put, List.setIfInBounds_toArray, List.set_cons_zero, List.set_cons_succ])
      refine wpAnyH_take (i := 2) (oi := ?oi3) (v := ?v3) (fuel := 6) ?hi3 ?hs3 ?hf3 ?hr3 ?hq3 (Or.inl ⟨?hw3, ?hy3⟩) hHeld ?rest3
      case hi3 => rw [List.getElem?_toArray]; rfl
      case hq3 => exact fun _ _ _ h => h
      case hs3 | hf3 | hr3 => kernel_rfl
      case hw3 => rfl
      case hy3 => (intro w1 hSw; (try dsimp only at hSw); go_simp; try with_reducible rfl)
      (try simp only [Act.put, List.setIfInBounds_toArray, List.set_cons_zero, List.set_cons_succ])
      refine wpAnyH_take (i := 3) (oi := ?oi4) (v := ?v4) (fuel := 5) ?hi4 ?hs4 ?hf4 ?hr4 ?hq4 (Or.inl ⟨?hw4, ?hy4⟩) hHeld ?rest4
      case hi4 => rw [List.getElem?_toArray]; rfl
      case hq4 => exact fun _ _ _ h => h
      case hs4 | hf4 | hr4 => kernel_rfl
      case hw4 => rfl
      case hy4 => (intro w1 hSw; (try dsimp only at hSw); go_simp; try with_reducible rfl)
      (try simp only [Act.put, List.setIfInBounds_toArray, List.set_cons_zero, List.set_cons_succ])
      refine wpAnyH_take (i := 4) (oi := ?oi5) (v := ?v5) (fuel := 4) ?hi5 ?hs5 ?hf5 ?hr5 ?hq5 (Or.inl ⟨?hw5, ?hy5⟩) hHeld ?rest5
      case hi5 => rw [List.getElem?_toArray]; rfl
      case hq5 => exact fun _ _ _ h => h
      case hs5 | hf5 | hr5 => kernel_rfl
      case hw5 => rfl
      case hy5 => (intro w1 hSw; (try dsimp only at hSw); go_simp; try with_reducible rfl)
      (try simp only [Act.put, List.setIfInBounds_toArray, List.set_cons_zero, List.set_cons_succ])
      refine wpAnyH_take (i := 5) (oi := ?oi6) (v := ?v6) (fuel := 3) ?hi6 ?hs6 ?hf6 ?hr6 ?hq6 (Or.inl ⟨?hw6, ?hy6⟩) hHeld ?rest6
      case hi6 => rw [List.getElem?_toArray]; rfl
      case hq6 => exact fun _ _ _ h => h
      case hs6 | hf6 | hr6 => kernel_rfl
      case hw6 => rfl
      case hy6 => (intro w1 hSw; (try dsimp only at hSw); go_simp; try with_reducible rfl)
      (try simp only [Act.put, List.setIfInBounds_toArray, List.set_cons_zero, List.set_cons_succ])
      refine wpAnyH_take (i := 6) (oi := ?oi7) (v := ?v7) (fuel := 2) ?hi7 ?hs7 ?hf7 ?hr7 ?hq7 (Or.inl ⟨?hw7, ?hy7⟩) hHeld ?rest7
      case hi7 => rw [List.getElem?_toArray]; rfl
      case hq7 => exact fun _ _ _ h => h
      case hs7 | hf7 | hr7 => kernel_rfl
      case hw7 => rfl
      case hy7 => (intro w1 hSw; (try dsimp only at hSw); go_simp; try with_reducible rfl)
      (try simp only [Act.put, List.setIfInBounds_toArray, List.set_cons_zero, List.set_cons_succ])
      refine wpAnyH_take (i := 7) (oi := ?oi8) (v := ?v8) (fuel := 1) ?hi8 ?hs8 ?hf8 ?hr8 ?hq8 (Or.inl ⟨?hw8, ?hy8⟩) hHeld ?rest8
      case hi8 => rw [List.getElem?_toArray]; rfl
      case hq8 => exact fun _ _ _ h => h
      case hs8 | hf8 | hr8 => kernel_rfl
      case hw8 => rfl
      case hy8 => (intro w1 hSw; (try dsimp only at hSw); go_simp; try with_reducible rfl)
      (try simp only [Act.put, List.setIfInBounds_toArray, List.set_cons_zero, List.set_cons_succ])
      refine wpAnyH_take (i := 8) (oi := ?oi9) (v := .bool false) (fuel := 0) ?hi9 ?hs9 ?hf9 ?hr9 ?hq9 (Or.inl ⟨?hw9, ?hy9⟩) hHeld ?rest9
      case hi9 => rw [List.getElem?_toArray]; rfl
      case hq9 => exact fun _ _ _ h => h
      case hs9 | hf9 | hr9 => kernel_rfl
      case hw9 => rfl
      case hy9 => (intro w1 hSw; (try dsimp only at hSw); go_simp; try simp [go_sem])
      (try simp only [Act.put, List.setIfInBounds_toArray, List.set_cons_zero, List.set_cons_succ])
      refine wpAnyH_done (by kernel_rfl) ?_ _
      clear hHeld
      go_wp2_with fail
      go_roundw
      case rel => exact ⟨k + 1, by omega, by go_num, hbw⟩
      case measure => simp [intOf]; omega
    · obtain rfl : k = xs.length := by omega
      go_wp2_with fail
      go_ret
      exact ⟨rfl, hbw⟩
end Go.Proofs.Ythholhabgdpndaa
