/- Lines of the program: decimals, the tables of words, the parts of a line. -/
import Derived.Test.YtbbecofgmodfiaaGreatDoorNL
import Derived.Test.YtbbecofgmodfiaaGreatDoorSh
namespace Go.Proofs.YtbbecofgmodfiaaGreatDoor.G
open Go.RowKit
set_option linter.unusedVariables false
set_option linter.unusedSimpArgs false

theorem decDigits_eq : ∀ n : Nat, decS n = ⟨(Lib.decDigits n).toArray⟩ := by
  intro n
  induction n using Nat.strongRecOn with
  | ind n ih =>
    by_cases h : n < 10
    · rw [decS_lt h, Lib.decDigits, dif_pos h]
      have e : (48 + (n : Int)).toNat = 48 + n := by omega
      simp [strOfNums, e]
    · rw [decS_ge h, Lib.decDigits, dif_neg h, ih (n / 10) (by omega)]
      have e : (48 + ((n % 10 : Nat) : Int)).toNat = 48 + n % 10 := by omega
      have h2 : strOfNums [48 + ((n % 10 : Nat) : Int)] = ⟨#[UInt8.ofNat (48 + n % 10)]⟩ := by unfold strOfNums; rw [List.map_cons, List.map_nil, e]
      rw [h2]
      apply ByteArray.ext
      simp [ByteArray.data_append]
theorem itoa_eq (n : Int) : (⟨(Lib.itoa n).toArray⟩ : ByteArray) = decI n := by
  unfold Lib.itoa decI
  split
  · rw [decDigits_eq]
    apply ByteArray.ext
    simp [ByteArray.data_append]
  · rw [decDigits_eq]
theorem below_grow (w : World) (k : Nat) (os : Array Obj) : Below w.heap.size w (Sort.grow (w.drewN k) os) :=
  ⟨rfl, rfl, rfl, by simp [Sort.grow, World.drewN], fun j hj => by
    show (w.heap ++ os)[j]? = _
    rw [Array.getElem?_append_left hj]⟩
theorem gPow : Tryz.prog.globalNamed "internal/strconv.uint64pow10" = some 3 := by kernel_rfl
theorem tab_below {w w' : World} {name : String} {g B : Nat} {k : IntKind} {zs : List Int} (hg : Tryz.prog.globalNamed name = some g) (h : Lib.TabIs Tryz.prog w name k zs) (hb : Below B w w') (hB : g < B) : Lib.TabIs Tryz.prog w' name k zs := by
  unfold Lib.TabIs World.var? at *
  rw [hg] at *
  simp only [Option.bind_some] at *
  rw [hb.block g hB]
  exact h
/-- What the package-level tables hold. -/
structure Tabs (w : World) : Prop where
  pow : Lib.TabIs Tryz.prog w "internal/strconv.uint64pow10" .u64 Lib.pow10Tab
  ops : ∀ k, k < 21 → w.cell? ⟨0, k, none⟩ = some (.string (wordsL.getD k ⟨#[]⟩))
  calls : ∀ k, k < 7 → w.cell? ⟨1, k, none⟩ = some (.string (callsL.getD k ⟨#[]⟩))
  lt : 10 ≤ w.heap.size
theorem Tabs.below {w w' : World} (h : Tabs w) (hb : Below w.heap.size w w') : Tabs w' :=
  have l := h.lt
  ⟨tab_below gPow h.pow hb (by omega), fun k hk => (hb.cell (p := ⟨0, k, none⟩) (by dsimp only; omega)).trans (h.ops k hk), fun k hk => (hb.cell (p := ⟨1, k, none⟩) (by dsimp only; omega)).trans (h.calls k hk), Nat.le_trans h.lt hb.size⟩
theorem itoa_w (n : Int) (h0 : -1000 ≤ n) (h1 : n ≤ 4294967295) (w : World) (hT : Tabs w) : Calls Tryz.prog 33 #[.int .i64 n] w fun e w' => AnE 20 (decI n) e ∧ Below w.heap.size w w' := by
  refine (Tryz.strconv_Itoa n (by omega) (by omega) w hT.pow).mono ?_
  rintro e w' ⟨rfl, k, os, rfl⟩
  exact ⟨⟨_, by rw [itoa_eq]; exact decI_size h0 h1, itoa_eq n, rfl⟩, below_grow _ _ _⟩

set_option maxRecDepth 100000 in
set_option maxHeartbeats 4000000 in
theorem regPut_w (n : Int) (h0 : -1000 ≤ n) (h1 : n ≤ 4294967295) (w : World) (hT : Tabs w) : Calls Tryz.prog 36 #[.int .i64 n] w fun e w' => AnE 21 (⟨#[114]⟩ ++ decI n) e ∧ Below w.heap.size w w' := by
  go_enter Tryz.func36, Tryz.ntmps36
  go_wp2_with fail
  refine (itoa_w n h0 h1 _ hT).mono ?_
  rintro e w1 ⟨⟨x, hx, hxe, rfl⟩, b1⟩
  go_wp2_with fail
  go_ret
  exact ⟨⟨_, by rw [ByteArray.size_append]; show 1 + x.size ≤ 21; omega, hid (by rw [hxe.out]), rfl⟩, b1⟩

def InsV (o d s f i z : Int) : Value := .agg #[.int .i64 o, .int .i64 d, .int .i64 s, .int .i64 f, .int .i64 i, .int .i64 z]
theorem belA (w : World) (X : Obj) : Below w.heap.size w (w.alloc X) := (Below.refl _ _).alloc (Nat.le_refl _) _

set_option maxRecDepth 100000 in
set_option maxHeartbeats 4000000 in
theorem part_d (o d s f i z : Int) (h0 : 0 ≤ d) (h1 : d ≤ 10) (w : World) (hT : Tabs w) : Calls Tryz.prog 16 #[.agg #[.int .i64 o, .int .i64 d, .int .i64 s, .int .i64 f, .int .i64 i, .int .i64 z], .int .u8 100] w fun e w' => AnE 21 (⟨#[114]⟩ ++ decI d) e ∧ Below w.heap.size w w' := by
  have HT := hid hT
  clear hT
  go_enter Tryz.func16, Tryz.ntmps16
  go_wp2_with fail
  refine (regPut_w d (by omega) (by omega) _ (HT.out.below (belA _ _))).mono ?_
  rintro e w1 ⟨⟨x, hx, hxe, rfl⟩, b1⟩
  have HZ := hid ((belA _ _).to b1)
  clear b1
  go_wp2_with fail
  go_ret
  exact ⟨⟨x, hx, hxe, rfl⟩, HZ.out⟩
set_option maxRecDepth 100000 in
set_option maxHeartbeats 4000000 in
theorem part_o (o d s f i z : Int) (h0 : -128 ≤ f) (h1 : f ≤ 127) (w : World) (hT : Tabs w) : Calls Tryz.prog 16 #[.agg #[.int .i64 o, .int .i64 d, .int .i64 s, .int .i64 f, .int .i64 i, .int .i64 z], .int .u8 111] w fun e w' => AnE 20 (decI f) e ∧ Below w.heap.size w w' := by
  have HT := hid hT
  clear hT
  go_enter Tryz.func16, Tryz.ntmps16
  go_wp2_with fail
  refine (itoa_w f (by omega) (by omega) _ (HT.out.below (belA _ _))).mono ?_
  rintro e w1 ⟨⟨x, hx, hxe, rfl⟩, b1⟩
  have HZ := hid ((belA _ _).to b1)
  clear b1
  go_wp2_with fail
  go_ret
  exact ⟨⟨x, hx, hxe, rfl⟩, HZ.out⟩
set_option maxRecDepth 100000 in
set_option maxHeartbeats 4000000 in
theorem part_c (o d s f z : Int) (im : Nat) (hi : im < 7) (w : World) (hT : Tabs w) : Calls Tryz.prog 16 #[.agg #[.int .i64 o, .int .i64 d, .int .i64 s, .int .i64 f, .int .i64 (im : Int), .int .i64 z], .int .u8 99] w fun e w' => AnE 5 (callsL.getD im ⟨#[]⟩) e ∧ Below w.heap.size w w' := by
  have hlt := hT.lt
  have hi' : (im : Int) < 7 := by omega
  have hc : ∀ X, (w.alloc X).cell? ⟨1, im, none⟩ = some (.string (callsL.getD im ⟨#[]⟩)) := fun X => ((belA w X).cell (p := ⟨1, im, none⟩) (by dsimp only; omega)).trans (hT.calls im hi)
  have hs := call_size im
  obtain ⟨y, hy⟩ : ∃ y, y = callsL.getD im ⟨#[]⟩ := ⟨_, rfl⟩
  rw [← hy] at hc hs
  have HY := hid hy
  clear hy hT
  go_enter Tryz.func16, Tryz.ntmps16
  go_wp2_with fail
  go_ret
  exact ⟨⟨y, hs, HY, rfl⟩, belA _ _⟩
set_option maxRecDepth 100000 in
set_option maxHeartbeats 4000000 in
theorem part_x (o d s f i z : Int) (hs0 : -1 ≤ s) (hs1 : s ≤ 10) (hi0 : 0 ≤ i) (hi1 : i ≤ 4294967295) (w : World) (hT : Tabs w) : Calls Tryz.prog 16 #[.agg #[.int .i64 o, .int .i64 d, .int .i64 s, .int .i64 f, .int .i64 i, .int .i64 z], .int .u8 120] w fun e w' => AnE 21 (regI s i) e ∧ Below w.heap.size w w' := by
  have HT := hid hT
  clear hT
  by_cases h : s = -1
  · subst h
    go_enter Tryz.func16, Tryz.ntmps16
    go_wp2_with fail
    refine (itoa_w i (by omega) (by omega) _ (HT.out.below (belA _ _))).mono ?_
    rintro e w1 ⟨⟨x, hx, hxe, rfl⟩, b1⟩
    have HZ := hid ((belA _ _).to b1)
    clear b1
    go_wp2_with fail
    go_ret
    exact ⟨⟨x, by omega, hid (by rw [hxe.out]; rfl), rfl⟩, HZ.out⟩
  · have h' : (s == -1) = false := by simpa using h
    have HR : Hid (regI s i = ⟨#[114]⟩ ++ decI s) := hid (by unfold regI; rw [if_pos (by omega)])
    go_enter Tryz.func16, Tryz.ntmps16
    go_wp2_with fail
    refine (regPut_w s (by omega) (by omega) _ (HT.out.below (belA _ _))).mono ?_
    rintro e w1 ⟨⟨x, hx, hxe, rfl⟩, b1⟩
    have HZ := hid ((belA _ _).to b1)
    clear b1
    go_wp2_with fail
    go_ret
    exact ⟨⟨x, hx, hid (by rw [HR.out, hxe.out]), rfl⟩, HZ.out⟩

/-- What stands in a line behind its first word. -/
def partsS (o : Int) : ByteArray := if inB o 1 11 then ⟨#[100, 120]⟩ else if inB o 12 15 || o == 17 then ⟨#[100, 120, 111]⟩ else if o == 18 then ⟨#[100, 111, 120]⟩ else if o == 16 then ⟨#[111]⟩ else if o == 19 then ⟨#[99]⟩ else ⟨#[]⟩
set_option maxRecDepth 100000 in
set_option maxHeartbeats 4000000 in
theorem parts_w (o : Int) (w : World) : Calls Tryz.prog 15 #[.int .i64 o] w fun e w' => e = .returned (.string (partsS o)) ∧ w' = w := by
  go_enter Tryz.func15, Tryz.ntmps15
  go_wp2_with fail
  refine (f42 _ _).mono ?_
  rintro e w1 ⟨rfl, rfl⟩
  cases h1 : inB o 1 11
  · go_wp2_with fail
    refine (f43 _ _).mono ?_
    rintro e w1 ⟨rfl, hw⟩
    rw [hw]
    clear hw w1
    cases h2 : inB o 12 15
    · go_wp2_with fail
      all_goals (go_ret; refine ⟨ret_str ?_, rfl⟩; simp_all [partsS])
    · go_wp2_with fail
      all_goals (go_ret; refine ⟨ret_str ?_, rfl⟩; simp_all [partsS])
  · go_wp2_with fail
    go_ret
    exact ⟨ret_str (by simp [partsS, h1]), rfl⟩

set_option maxRecDepth 100000 in
set_option maxHeartbeats 4000000 in
theorem first_0 (on : Nat) (z : Int) (hon : on < 21) (hr : reachesB (on : Int) = false) (w : World) (hT : Tabs w) : Calls Tryz.prog 14 #[.int .i64 (on : Int), .int .i64 z] w fun e w' => AnE 5 (wordsL.getD on ⟨#[]⟩) e ∧ Below w.heap.size w w' := by
  have hon' : (on : Int) < 21 := by omega
  have hc := hT.ops on hon
  have hs := word_size on
  obtain ⟨y, hy⟩ : ∃ y, y = wordsL.getD on ⟨#[]⟩ := ⟨_, rfl⟩
  rw [← hy] at hc hs
  have HY := hid hy
  clear hy hT
  go_enter Tryz.func14, Tryz.ntmps14
  go_wp2_with fail
  refine (f44 _ _).mono ?_
  rintro e w1 ⟨rfl, hw⟩
  rw [hw, hr]
  clear hw w1
  go_wp2_with fail
  go_ret
  exact ⟨⟨y, hs, HY, rfl⟩, Below.refl _ _⟩
set_option maxRecDepth 100000 in
set_option maxHeartbeats 4000000 in
theorem first_1 (on : Nat) (z : Int) (hon : on < 21) (hr : reachesB (on : Int) = true) (hz0 : -1000 ≤ z) (hz1 : z ≤ 1000) (w : World) (hT : Tabs w) : Calls Tryz.prog 14 #[.int .i64 (on : Int), .int .i64 z] w fun e w' => AnE 25 (wordsL.getD on ⟨#[]⟩ ++ decI z) e ∧ Below w.heap.size w w' := by
  have hon' : (on : Int) < 21 := by omega
  have hc := hT.ops on hon
  have hlt := hT.lt
  have hs := word_size on
  obtain ⟨y, hy⟩ : ∃ y, y = wordsL.getD on ⟨#[]⟩ := ⟨_, rfl⟩
  rw [← hy] at hc hs
  have HY := hid hy
  have HT := hid hT
  clear hy hT
  go_enter Tryz.func14, Tryz.ntmps14
  go_wp2_with fail
  refine (f44 _ _).mono ?_
  rintro e w1 ⟨rfl, hw⟩
  rw [hw, hr]
  clear hw w1
  go_wp2_with fail
  refine wp_region_held_drew (S := (fun w' => w'.cell? ⟨0, on, none⟩ = some (.string y))) (by kernel_rfl) (hc) (fun hHeld => ?_)
  refine wpAnyH_take (i := 0) (oi := ?oi1) (v := ?v1) (fuel := 6) ?hi1 ?hs1 ?hf1 ?hr1 ?hq1 (Or.inl ⟨?hw1, ?hy1⟩) hHeld ?rest1
  case hi1 => rw [List.getElem?_toArray]; rfl
  case hq1 => exact fun _ _ _ h => h
  case hs1 | hf1 | hr1 => kernel_rfl
  case hw1 => rfl
  case hy1 => (intro w1 hSw; (try dsimp only at hSw); go_simp; try with_reducible rfl)
  (try simp only [Act.put, List.setIfInBounds_toArray, List.set_cons_zero, List.set_cons_succ])
  refine wpAnyH_take (i := 1) (oi := ?oi2) (v := ?v2) (fuel := 5) ?hi2 ?hs2 ?hf2 ?hr2 ?hq2 (Or.inl ⟨?hw2, ?hy2⟩) hHeld ?rest2
  case hi2 => rw [List.getElem?_toArray]; rfl
  case hq2 => exact fun _ _ _ h => h
  case hs2 | hf2 | hr2 => kernel_rfl
  case hw2 => rfl
  case hy2 => (intro w1 hSw; (try dsimp only at hSw); go_simp; try with_reducible rfl)
  (try simp only [Act.put, List.setIfInBounds_toArray, List.set_cons_zero, List.set_cons_succ])
  refine wpAnyH_take (i := 2) (oi := ?oi3) (v := ?v3) (fuel := 4) ?hi3 ?hs3 ?hf3 ?hr3 ?hq3 (Or.inl ⟨?hw3, ?hy3⟩) hHeld ?rest3
  case hi3 => rw [List.getElem?_toArray]; rfl
  case hq3 => exact fun _ _ _ h => h
  case hs3 | hf3 | hr3 => kernel_rfl
  case hw3 => rfl
  case hy3 => (intro w1 hSw; (try dsimp only at hSw); go_simp; try with_reducible rfl)
  (try simp only [Act.put, List.setIfInBounds_toArray, List.set_cons_zero, List.set_cons_succ])
  refine wpAnyH_take (i := 3) (oi := ?oi4) (v := ?v4) (fuel := 3) ?hi4 ?hs4 ?hf4 ?hr4 ?hq4 (Or.inl ⟨?hw4, ?hy4⟩) hHeld ?rest4
  case hi4 => rw [List.getElem?_toArray]; rfl
  case hq4 => exact fun _ _ _ h => h
  case hs4 | hf4 | hr4 => kernel_rfl
  case hw4 => rfl
  case hy4 => (intro w1 hSw; (try dsimp only at hSw); go_simp; try with_reducible rfl)
  (try simp only [Act.put, List.setIfInBounds_toArray, List.set_cons_zero, List.set_cons_succ])
  refine wpAnyH_ready (fuel := 2) (rs := [4]) (by kernel_rfl) (by simp) ?_
  refine AllReadyH.cons (o := ?oi5) ?hi5 (fun K hK => ?st5) AllReadyH.nil
  case hi5 => rw [List.getElem?_toArray]; rfl
  go_simp
  refine (itoa_w z (by omega) (by omega) _ (HT.out.below (Below.refl _ _).drew)).mono ?_
  rintro ee wr ⟨⟨x, hx, hxe, rfl⟩, b1⟩
  have hc2 := (((Below.refl w.heap.size w).drew.trans b1).cell (p := ⟨0, on, none⟩) (by dsimp only; omega)).trans hc
  have HZ := hid ((Below.refl _ _).drew.trans b1)
  clear b1
  go_wp2_with fail
  refine hK.out _ _ ?hS5 (fun hHeld => ?re5)
  case hS5 => exact hc2
  clear hK K
  (try simp only [Act.put, List.setIfInBounds_toArray, List.set_cons_zero, List.set_cons_succ])
  refine wpAnyH_take (i := 5) (oi := ?oi6) (v := .string (y ++ x)) (fuel := 1) ?hi6 ?hs6 ?hf6 ?hr6 ?hq6 (Or.inl ⟨?hw6, ?hy6⟩) hHeld ?rest6
  case hi6 => rw [List.getElem?_toArray]; rfl
  case hq6 => exact fun _ _ _ h => h
  case hs6 | hf6 | hr6 => kernel_rfl
  case hw6 => rfl
  case hy6 => (intro w1 hSw; (try dsimp only at hSw); go_simp; omega)
  (try simp only [Act.put, List.setIfInBounds_toArray, List.set_cons_zero, List.set_cons_succ])
  refine wpAnyH_take (i := 6) (oi := ?oi7) (v := ?v7) (fuel := 0) ?hi7 ?hs7 ?hf7 ?hr7 ?hq7 (Or.inl ⟨?hw7, ?hy7⟩) hHeld ?rest7
  case hi7 => rw [List.getElem?_toArray]; rfl
  case hq7 => exact fun _ _ _ h => h
  case hs7 | hf7 | hr7 => kernel_rfl
  case hw7 => rfl
  case hy7 => (intro w1 hSw; (try dsimp only at hSw); go_simp; try with_reducible rfl)
  (try simp only [Act.put, List.setIfInBounds_toArray, List.set_cons_zero, List.set_cons_succ])
  refine wpAnyH_done (by kernel_rfl) ?_ _
  clear hHeld
  go_wp2_with fail
  go_ret
  exact ⟨⟨_, by rw [ByteArray.size_append]; omega, hid (by rw [HY.out, hxe.out]), rfl⟩, HZ.out⟩

end Go.Proofs.YtbbecofgmodfiaaGreatDoor.G
