/- So many bytes 0. -/
import Derived.Test.YtkaekiodjjhjkaaJGrp2
import Derived.Test.YtkaekiodjjhjkaaJTk
import Derived.Test.YtkaekiodjjhjkaaJGrp16
import Derived.Laws.OwnMore
import Derived.Test.YtkaekiodjjhjkaaJGrp14
set_option maxRecDepth 100000
set_option maxHeartbeats 8000000
set_option linter.unusedSimpArgs false
set_option linter.unusedVariables false
namespace Go.Proofs.Ytkaekiodjjhjkaa.G
open Go.RowKit
def zerosB (n : Nat) : ByteArray := ⟨(List.replicate n 0).toArray⟩
theorem nums_zero (n : Nat) : strOfNums (List.replicate n 0) = zerosB n := by
 apply ByteArray.ext
 simp [strOfNums, zerosB]
theorem info5 : (Try.prog.info? 5).map (fun i => (i.zero, i.size, i.bytes)) = some (some (.int .u8 0), 1, 1) := by kernel_rfl
theorem f52 (n : Nat) (w : World) (hn : n ≤ 8) : Calls Try.prog 100 #[.int .i64 n] w fun e w' => e = .returned (.string (zerosB n)) ∧ Below w.heap.size w w' := by
 obtain ⟨i0, hi, hz0, hz1, hz2⟩ := info_parts info5
 go_enter Try.func100, Try.ntmps100
 go_wp2_with (first | (refine wpList_make_full _ rfl _ _ 22 rfl w.heap.size 5 i0 _ 1 Try.underlying22 hi hz0 hz1 .i64 .i64 _ _ n rfl rfl rfl rfl ?m1 ?m2 (Nat.le_refl _) ?_))
 case m1 => rw [hz2]; omega
 case m2 => unfold maxLen; omega
 intro w1 hown hgrow
 have hbel : Below w.heap.size w w1 := (Below.refl _ _).grown hgrow (Nat.le_refl _) (fun k hk => by cases hk)
 have hcell : ∀ i, i < n → w1.cell? ⟨w.heap.size, 0 + i, none⟩ = some (.int .u8 ((List.replicate n (0 : Int)).getD i 0)) := by
  intro i hi'
  rw [Nat.zero_add, hown.cellAt i (by omega)]
  rw [toList_madeCells_one, List.getElem?_replicate, if_pos (by omega)]
  simp [List.getD, hi']
 have hconv := run_convert_bytes_arg (P := Try.prog) w1 22 5 Try.underlying22 Try.underlying5 w.heap.size 0 n n (List.replicate n 0) (by simp) hcell 9 Try.underlying9
 rw [nums_zero] at hconv
 clear hcell hown hgrow hi hz0 hz1 hz2
 go_wp2_with fail
 go_ret
 exact ⟨rfl, hbel⟩
end Go.Proofs.Ytkaekiodjjhjkaa.G
namespace Go.Proofs.Ytkaekiodjjhjkaa.G
open Go.RowKit
def keysN (m : Nat) : List Int := (List.range m).map fun (j : Nat) => (j : Int)
theorem keysN_length (m : Nat) : (keysN m).length = m := by simp [keysN]
theorem keys_snoc (m : Nat) : keysN (m + 1) = keysN m ++ [(m : Int)] := by simp [keysN, List.range_succ]
theorem reps_snoc (m : Nat) (z : ByteArray) : (List.replicate (m + 1) z).map Value.string = (List.replicate m z).map Value.string ++ [.string z] := by simp [List.replicate_succ']
theorem f37row (k : Int) (hk : (k == 1) = true) (n m : Nat) (w : World) (hn : n ≤ 8) (hm : m ≤ 8) :
 Calls Try.prog 84 #[.int .i64 k, .int .i64 n, .int .i64 m] w fun e w' => ∃ V, e = .returned V ∧ Tab w.heap.size w' k n m (keysN m) (List.replicate m (zerosB n)) V ∧ Below w.heap.size w w' := by
 obtain ⟨i0, hi, hz0, hz1, hz2⟩ := info_parts info3
 obtain ⟨j0, hj, hy0, hy1, hy2⟩ := info_parts info9
 have c2 : Below w.heap.size w ((w.alloc (.cells #[.int .i64 0, .int .i64 0, .int .i64 0, .slice none 0 0, .slice none 0 0] 89)).alloc (.cells #[.int .i64 k, .int .i64 n, .int .i64 m, .slice none 0 0, .slice none 0 0] 89)) := ((Below.refl _ w).alloc (Nat.le_refl _) _).alloc (by simp) _
 have bR : Box5 ((w.alloc (.cells #[.int .i64 0, .int .i64 0, .int .i64 0, .slice none 0 0, .slice none 0 0] 89)).alloc (.cells #[.int .i64 k, .int .i64 n, .int .i64 m, .slice none 0 0, .slice none 0 0] 89)) w.heap.size 0 0 0 (.slice none 0 0) (.slice none 0 0) := by
  have := World.alloc_heap_new w (.cells #[.int .i64 0, .int .i64 0, .int .i64 0, .slice none 0 0, .slice none 0 0] 89)
  have h1 : Box5 (w.alloc (.cells #[.int .i64 0, .int .i64 0, .int .i64 0, .slice none 0 0, .slice none 0 0] 89)) w.heap.size 0 0 0 (.slice none 0 0) (.slice none 0 0) := this
  exact Box5.kept h1 (World.grownBy_alloc _ _ none) (by simp)
 have bX : Box5 ((w.alloc (.cells #[.int .i64 0, .int .i64 0, .int .i64 0, .slice none 0 0, .slice none 0 0] 89)).alloc (.cells #[.int .i64 k, .int .i64 n, .int .i64 m, .slice none 0 0, .slice none 0 0] 89)) (w.heap.size + 1) k n m (.slice none 0 0) (.slice none 0 0) := by have := World.alloc_heap_new (w.alloc (.cells #[.int .i64 0, .int .i64 0, .int .i64 0, .slice none 0 0, .slice none 0 0] 89)) (.cells #[.int .i64 k, .int .i64 n, .int .i64 m, .slice none 0 0, .slice none 0 0] 89); simpa [Box5] using this
 have HC2 := hid c2
 have HBR := hid bR
 have HBX0 := hid bX
 clear c2 bR bX
 go_enter Try.func84, Try.ntmps84
 go_wp2_with fail
 go_loopw [8] (fun i wr => ∃ (j : Nat) (v u : Value), j ≤ m ∧ i = .int .i64 j ∧ Box5 wr (w.heap.size + 1) k n m v u ∧ Box5 wr w.heap.size 0 0 0 (.slice none 0 0) (.slice none 0 0) ∧ wr.ownsRow w.heap.size 3 1 v j ((keysN j).map (.int .i64)) ∧ wr.ownsRow w.heap.size 9 1 u j ((List.replicate j (zerosB n)).map .string) ∧ Below w.heap.size w wr) (fun i _ => m - (intOf i).toNat)
 case atStart => exact ⟨0, _, _, Nat.zero_le _, rfl, HBX0.out, HBR.out, World.ownsRow_nil _ _ _ _, World.ownsRow_nil _ _ _ _, HC2.out⟩
 case round =>
  clear HC2 HBR HBX0
  obtain ⟨j, v, u, hjm, rfl, bX, bR, rI, rS, cw⟩ := hrel
  have hsz := cw.size
  have hlt1 := Box5.lt bX
  obtain ⟨t0, t1, t2, t3, t4⟩ := Box5.cells bX
  have HB0 := hid bX
  have HR0 := hid bR
  have HI0 := hid rI
  have HS0 := hid rS
  have HC0 := hid cw
  clear bX bR rI rS cw
  by_cases hlt : j < m
  ·have hlt' : (j : Int) < (m : Int) := by omega
   go_wp2_with (first
    | (at_builtin; go_must (refine wpList_append_own _ rfl _ _ 42 rfl w.heap.size 3 i0 (.int .i64 0) 1 8 Try.underlying42 hi hz0 hz1 hz2 rfl (by decide) _ _ _ rfl (World.ownsRow.alloc HI0.out _) ⟨wr.heap.size, 0, none⟩ 1 1 [.int .i64 j] rfl rfl (one_newE _ _ _ _ rfl) (by simp [Value.oneCell']) (by unfold maxLen; omega) (by omega) (by simp; omega) ?_)))
   intro v2 w2 hown2 hgrow2 _
   obtain ⟨ga, ca, rfl⟩ := ownsRow_succ hown2
   obtain ⟨bX2, bX3, rI3, rS3, _, l3⟩ := Box5.app3 HB0.out HI0.out HS0.out hsz (by omega) hown2 hgrow2
   have bR3 := Box5.kept (Box5.kept (Box5.kept HR0.out (World.grownBy_alloc _ _ none) (by simp)) hgrow2 (Box5.not_row HR0.out (by decide) HI0.out)) (grownBy_setCell5 w2 (w.heap.size + 1) 3 (.slice (some ⟨ga, 0, none⟩) (j + 1) ca)) (by simp)
   have cx := HC0.out.trans l3
   obtain ⟨q0, q1, q2, q3, q4⟩ := Box5.cells bX2
   have fq := Box5.frozen bX2
   clear t0 t1 t2 t3 t4
   have HRI := hid rI3
   have HRS := hid rS3
   have HBX := hid bX3
   have HRX := hid bR3
   have HCX := hid cx
   clear rI3 rS3 bX3 bR3 cx hown2 hgrow2 l3
   go_wp2_with fail
   clear q0 q1 q2 q3 q4 fq bX2
   obtain ⟨wx, hwx⟩ : ∃ wx, wx = w2.setCell ⟨w.heap.size + 1, 3, none⟩ (.slice (some ⟨ga, 0, none⟩) (j + 1) ca) := ⟨_, rfl⟩
   rw [← hwx] at HRI HRS HBX HRX HCX ⊢
   clear hwx
   have hzx := HCX.out.size
   have hltx := Box5.lt HBX.out
   obtain ⟨q0, q1, q2, q3, q4⟩ := Box5.cells HBX.out
   obtain ⟨ua, uc, rfl⟩ := own_slice HRS.out
   refine wp_region_held_drew (S := (fun _ => True)) (by kernel_rfl) (trivial) (fun hHeld => ?_)
   refine tkH 0 7 hHeld ?_
   try simp only [Act.put, sA, sB, sC]
   refine tkH 2 6 hHeld ?_
   try simp only [Act.put, sA, sB, sC]
   refine wpAnyH_ready (fuel := 5) (rs := [1, 3]) (by kernel_rfl) (by simp) ?_
   refine AllReadyH.cons (o := ?oi3) ?hi3 (fun K hK => ?st3) ?mo3
   case hi3 => rw [List.getElem?_toArray]; rfl
   case st3 =>
    go_simp
    refine hK.out _ _ ?hS3 (fun hHeld => ?re3)
    case hS3 => trivial
    clear hK K
    try simp only [Act.put, sA, sB, sC]
    refine wpAnyH_ready (fuel := 4) (rs := [3]) (by kernel_rfl) (by simp) ?_
    refine AllReadyH.cons (by rw [List.getElem?_toArray]; rfl) (fun K hK => ?_) AllReadyH.nil
    go_simp
    refine (f52 n _ hn).mono ?_
    rintro e w3 ⟨rfl, hb3⟩
    have hb3' : Below wx.heap.size wx w3 := (Below.refl _ _).drew.trans hb3
    have bX3 := Box5.below HBX.out hb3' (by omega)
    have bR3 := Box5.below HRX.out hb3' (by omega)
    have rI3 := own_below HRI.out hb3'
    have rS3 := own_below HRS.out hb3'
    have z3 := hb3'.size
    have x3 : w.heap.size + 1 < w3.heap.size := by omega
    obtain ⟨e0, e1, e2, e3, e4⟩ := Box5.cells bX3
    have HB3 := hid bX3
    have HR3 := hid bR3
    have HI3 := hid rI3
    have HS3 := hid rS3
    clear bX3 bR3 rI3 rS3
    go_wp2_with fail
    refine hK.out _ _ ?hS4 (fun hHeld => ?re4)
    case hS4 => trivial
    clear hK K
    try simp only [Act.put, sA, sB, sC]
    refine wpAnyH_ready (fuel := 3) (rs := [4]) (by kernel_rfl) (by simp) ?_
    refine AllReadyH.cons (by rw [List.getElem?_toArray]; rfl) (fun K hK => ?_) AllReadyH.nil
    go_simp
    refine hK.out _ _ ?hS5 (fun hHeld => ?re5)
    case hS5 => trivial
    clear hK K
    try simp only [Act.put, sA, sB, sC]
    refine wpAnyH_ready (fuel := 2) (rs := [5]) (by kernel_rfl) (by simp) ?_
    refine AllReadyH.cons (by rw [List.getElem?_toArray]; rfl) (fun K hK => ?_) AllReadyH.nil
    rw [if_pos (by first | rfl | kernel_rfl)]
    refine wp_append_own _ _ _ 84 rfl w.heap.size 9 j0 (.string ⟨#[]⟩) 1 16 Try.underlying84 hj hy0 hy1 hy2 rfl (by decide) _ _ _ rfl (World.ownsRow.alloc HS3.out (.cells #[.string (zerosB n)] 9)) ⟨w3.heap.size, 0, none⟩ 1 1 [.string (zerosB n)] rfl rfl (one_newE _ _ _ _ rfl) (by simp [Value.oneCell']) (by unfold maxLen; omega) (by omega) (by simp; omega) ?_
    intro v5 w5 hown5 hgrow5 _
    obtain ⟨gb, cb, rfl⟩ := ownsRow_succ hown5
    obtain ⟨bX5, bX6, rS6, rI6, _, l6⟩ := Box5.app4 HB3.out HS3.out HI3.out (by omega) (by omega) hown5 hgrow5
    have bR6 := Box5.kept (Box5.kept (Box5.kept HR3.out (World.grownBy_alloc _ _ none) (by simp)) hgrow5 (Box5.not_row HR3.out (by decide) HS3.out)) (grownBy_setCell5 w5 (w.heap.size + 1) 4 (.slice (some ⟨gb, 0, none⟩) (j + 1) cb)) (by simp)
    obtain ⟨k0, k1, k2, k3, k4⟩ := Box5.cells bX5
    have fk := Box5.frozen bX5
    have HX6 := hid bX6
    have HR6 := hid bR6
    have HI6 := hid rI6
    have HS6 := hid rS6
    have L6 := hid l6
    clear bX6 bR6 rI6 rS6 l6 hown5 hgrow5
    refine hK.out _ _ ?hS6 (fun hHeld => ?re6)
    case hS6 => trivial
    clear hK K
    try simp only [Act.put, sA, sB, sC]
    refine wpAnyH_ready (fuel := 1) (rs := [6]) (by kernel_rfl) (by simp) ?_
    refine AllReadyH.cons (by rw [List.getElem?_toArray]; rfl) (fun K hK => ?_) AllReadyH.nil
    go_simp
    refine hK.out _ _ ?hS7 (fun hHeld => ?re7)
    case hS7 => trivial
    clear hK K
    try simp only [Act.put, sA, sB, sC]
    refine wpAnyH_ready (fuel := 0) (rs := [7]) (by kernel_rfl) (by simp) ?_
    refine AllReadyH.cons (by rw [List.getElem?_toArray]; rfl) (fun K hK => ?_) AllReadyH.nil
    go_simp
    refine hK.out _ _ ?hS8 (fun hHeld => ?re8)
    case hS8 => trivial
    clear hK K
    try simp only [Act.put, sA, sB, sC]
    refine wpAnyH_done (by kernel_rfl) ?_ _
    clear hHeld
    go_wp2_with fail
    go_roundw
    case rel => exact ⟨j + 1, _, _, by omega, by go_num, HX6.out, HR6.out, by rw [keys_snoc, List.map_append]; simpa using HI6.out, by rw [reps_snoc]; simpa using HS6.out, (HCX.out.trans (hb3'.mono (by omega))).trans L6.out⟩
    case measure => simp [intOf]; omega
   refine AllReadyH.cons (o := ?oi9) ?hi9 (fun K hK => ?st9) ?mo9
   case hi9 => rw [List.getElem?_toArray]; rfl
   case st9 =>
    go_simp
    refine (f52 n _ hn).mono ?_
    rintro e w3 ⟨rfl, hb3⟩
    have hb3' : Below wx.heap.size wx w3 := (Below.refl _ _).drew.trans hb3
    have bX3 := Box5.below HBX.out hb3' (by omega)
    have bR3 := Box5.below HRX.out hb3' (by omega)
    have rI3 := own_below HRI.out hb3'
    have rS3 := own_below HRS.out hb3'
    have z3 := hb3'.size
    have x3 : w.heap.size + 1 < w3.heap.size := by omega
    obtain ⟨e0, e1, e2, e3, e4⟩ := Box5.cells bX3
    have HB3 := hid bX3
    have HR3 := hid bR3
    have HI3 := hid rI3
    have HS3 := hid rS3
    clear bX3 bR3 rI3 rS3
    go_wp2_with fail
    refine hK.out _ _ ?hS9 (fun hHeld => ?re9)
    case hS9 => trivial
    clear hK K
    try simp only [Act.put, sA, sB, sC]
    refine wpAnyH_ready (fuel := 4) (rs := [1, 4]) (by kernel_rfl) (by simp) ?_
    refine AllReadyH.cons (o := ?oi10) ?hi10 (fun K hK => ?st10) ?mo10
    case hi10 => rw [List.getElem?_toArray]; rfl
    case st10 =>
     go_simp
     refine hK.out _ _ ?hS10 (fun hHeld => ?re10)
     case hS10 => trivial
     clear hK K
     try simp only [Act.put, sA, sB, sC]
     refine wpAnyH_ready (fuel := 3) (rs := [4]) (by kernel_rfl) (by simp) ?_
     refine AllReadyH.cons (by rw [List.getElem?_toArray]; rfl) (fun K hK => ?_) AllReadyH.nil
     go_simp
     refine hK.out _ _ ?hS11 (fun hHeld => ?re11)
     case hS11 => trivial
     clear hK K
     try simp only [Act.put, sA, sB, sC]
     refine wpAnyH_ready (fuel := 2) (rs := [5]) (by kernel_rfl) (by simp) ?_
     refine AllReadyH.cons (by rw [List.getElem?_toArray]; rfl) (fun K hK => ?_) AllReadyH.nil
     rw [if_pos (by first | rfl | kernel_rfl)]
     refine wp_append_own _ _ _ 84 rfl w.heap.size 9 j0 (.string ⟨#[]⟩) 1 16 Try.underlying84 hj hy0 hy1 hy2 rfl (by decide) _ _ _ rfl (World.ownsRow.alloc HS3.out (.cells #[.string (zerosB n)] 9)) ⟨w3.heap.size, 0, none⟩ 1 1 [.string (zerosB n)] rfl rfl (one_newE _ _ _ _ rfl) (by simp [Value.oneCell']) (by unfold maxLen; omega) (by omega) (by simp; omega) ?_
     intro v5 w5 hown5 hgrow5 _
     obtain ⟨gb, cb, rfl⟩ := ownsRow_succ hown5
     obtain ⟨bX5, bX6, rS6, rI6, _, l6⟩ := Box5.app4 HB3.out HS3.out HI3.out (by omega) (by omega) hown5 hgrow5
     have bR6 := Box5.kept (Box5.kept (Box5.kept HR3.out (World.grownBy_alloc _ _ none) (by simp)) hgrow5 (Box5.not_row HR3.out (by decide) HS3.out)) (grownBy_setCell5 w5 (w.heap.size + 1) 4 (.slice (some ⟨gb, 0, none⟩) (j + 1) cb)) (by simp)
     obtain ⟨k0, k1, k2, k3, k4⟩ := Box5.cells bX5
     have fk := Box5.frozen bX5
     have HX6 := hid bX6
     have HR6 := hid bR6
     have HI6 := hid rI6
     have HS6 := hid rS6
     have L6 := hid l6
     clear bX6 bR6 rI6 rS6 l6 hown5 hgrow5
     refine hK.out _ _ ?hS12 (fun hHeld => ?re12)
     case hS12 => trivial
     clear hK K
     try simp only [Act.put, sA, sB, sC]
     refine wpAnyH_ready (fuel := 1) (rs := [6]) (by kernel_rfl) (by simp) ?_
     refine AllReadyH.cons (by rw [List.getElem?_toArray]; rfl) (fun K hK => ?_) AllReadyH.nil
     go_simp
     refine hK.out _ _ ?hS13 (fun hHeld => ?re13)
     case hS13 => trivial
     clear hK K
     try simp only [Act.put, sA, sB, sC]
     refine wpAnyH_ready (fuel := 0) (rs := [7]) (by kernel_rfl) (by simp) ?_
     refine AllReadyH.cons (by rw [List.getElem?_toArray]; rfl) (fun K hK => ?_) AllReadyH.nil
     go_simp
     refine hK.out _ _ ?hS14 (fun hHeld => ?re14)
     case hS14 => trivial
     clear hK K
     try simp only [Act.put, sA, sB, sC]
     refine wpAnyH_done (by kernel_rfl) ?_ _
     clear hHeld
     go_wp2_with fail
     go_roundw
     case rel => exact ⟨j + 1, _, _, by omega, by go_num, HX6.out, HR6.out, by rw [keys_snoc, List.map_append]; simpa using HI6.out, by rw [reps_snoc]; simpa using HS6.out, (HCX.out.trans (hb3'.mono (by omega))).trans L6.out⟩
     case measure => simp [intOf]; omega
    refine AllReadyH.cons (o := ?oi15) ?hi15 (fun K hK => ?st15) ?mo15
    case hi15 => rw [List.getElem?_toArray]; rfl
    case st15 =>
     go_simp
     refine hK.out _ _ ?hS15 (fun hHeld => ?re15)
     case hS15 => trivial
     clear hK K
     try simp only [Act.put, sA, sB, sC]
     refine wpAnyH_ready (fuel := 3) (rs := [1]) (by kernel_rfl) (by simp) ?_
     refine AllReadyH.cons (by rw [List.getElem?_toArray]; rfl) (fun K hK => ?_) AllReadyH.nil
     go_simp
     refine hK.out _ _ ?hS16 (fun hHeld => ?re16)
     case hS16 => trivial
     clear hK K
     try simp only [Act.put, sA, sB, sC]
     refine wpAnyH_ready (fuel := 2) (rs := [5]) (by kernel_rfl) (by simp) ?_
     refine AllReadyH.cons (by rw [List.getElem?_toArray]; rfl) (fun K hK => ?_) AllReadyH.nil
     rw [if_pos (by first | rfl | kernel_rfl)]
     refine wp_append_own _ _ _ 84 rfl w.heap.size 9 j0 (.string ⟨#[]⟩) 1 16 Try.underlying84 hj hy0 hy1 hy2 rfl (by decide) _ _ _ rfl (World.ownsRow.alloc HS3.out (.cells #[.string (zerosB n)] 9)) ⟨w3.heap.size, 0, none⟩ 1 1 [.string (zerosB n)] rfl rfl (one_newE _ _ _ _ rfl) (by simp [Value.oneCell']) (by unfold maxLen; omega) (by omega) (by simp; omega) ?_
     intro v5 w5 hown5 hgrow5 _
     obtain ⟨gb, cb, rfl⟩ := ownsRow_succ hown5
     obtain ⟨bX5, bX6, rS6, rI6, _, l6⟩ := Box5.app4 HB3.out HS3.out HI3.out (by omega) (by omega) hown5 hgrow5
     have bR6 := Box5.kept (Box5.kept (Box5.kept HR3.out (World.grownBy_alloc _ _ none) (by simp)) hgrow5 (Box5.not_row HR3.out (by decide) HS3.out)) (grownBy_setCell5 w5 (w.heap.size + 1) 4 (.slice (some ⟨gb, 0, none⟩) (j + 1) cb)) (by simp)
     obtain ⟨k0, k1, k2, k3, k4⟩ := Box5.cells bX5
     have fk := Box5.frozen bX5
     have HX6 := hid bX6
     have HR6 := hid bR6
     have HI6 := hid rI6
     have HS6 := hid rS6
     have L6 := hid l6
     clear bX6 bR6 rI6 rS6 l6 hown5 hgrow5
     refine hK.out _ _ ?hS17 (fun hHeld => ?re17)
     case hS17 => trivial
     clear hK K
     try simp only [Act.put, sA, sB, sC]
     refine wpAnyH_ready (fuel := 1) (rs := [6]) (by kernel_rfl) (by simp) ?_
     refine AllReadyH.cons (by rw [List.getElem?_toArray]; rfl) (fun K hK => ?_) AllReadyH.nil
     go_simp
     refine hK.out _ _ ?hS18 (fun hHeld => ?re18)
     case hS18 => trivial
     clear hK K
     try simp only [Act.put, sA, sB, sC]
     refine wpAnyH_ready (fuel := 0) (rs := [7]) (by kernel_rfl) (by simp) ?_
     refine AllReadyH.cons (by rw [List.getElem?_toArray]; rfl) (fun K hK => ?_) AllReadyH.nil
     go_simp
     refine hK.out _ _ ?hS19 (fun hHeld => ?re19)
     case hS19 => trivial
     clear hK K
     try simp only [Act.put, sA, sB, sC]
     refine wpAnyH_done (by kernel_rfl) ?_ _
     clear hHeld
     go_wp2_with fail
     go_roundw
     case rel => exact ⟨j + 1, _, _, by omega, by go_num, HX6.out, HR6.out, by rw [keys_snoc, List.map_append]; simpa using HI6.out, by rw [reps_snoc]; simpa using HS6.out, (HCX.out.trans (hb3'.mono (by omega))).trans L6.out⟩
     case measure => simp [intOf]; omega
    exact AllReadyH.nil
   exact AllReadyH.nil
  ·obtain rfl : j = m := by omega
   have R5 := row_st5 HR0.out (by decide) HI0.out (k' := k) (s' := n) (r' := j) (v' := v) (u' := u)
   have T5 := row_st5 HR0.out (by decide) HS0.out (k' := k) (s' := n) (r' := j) (v' := v) (u' := u)
   have B5 := st5_below (w.heap.size) k n j v u HC0.out (by omega)
   have P5 := Box5.cells (Box5.st5 HR0.out (k' := k) (s' := n) (r' := j) (v' := v) (u' := u))
   obtain ⟨va, vc, rfl⟩ := own_slice HI0.out
   obtain ⟨ua, uc, rfl⟩ := own_slice HS0.out
   obtain ⟨y0, y1, y2, y3, y4⟩ := Box5.cells HR0.out
   have fR := Box5.frozen HR0.out
   have HR5 := hid R5
   have HT5 := hid T5
   have HB5 := hid B5
   have HP5 := hid P5
   clear R5 T5 B5 P5
   go_wp2_with fail
   obtain ⟨p0, p1, p2, p3, p4⟩ := HP5.out
   unfold st5 at p0 p1 p2 p3 p4
   refine bodyPost_ret (v := .agg #[.int .i64 k, .int .i64 n, .int .i64 j, .slice va j vc, .slice ua j uc]) (by simp [results, Try.results84, go_sem, p0, p1, p2, p3, p4]) rfl ?_
   exact ⟨_, rfl, ⟨_, _, rfl, by rw [keysN_length]; exact HR5.out, by rw [List.length_replicate]; exact HT5.out⟩, HB5.out⟩
end Go.Proofs.Ytkaekiodjjhjkaa.G
namespace Go.Proofs.Ytkaekiodjjhjkaa.G
open Go.RowKit
def newT (k s r : Int) : TR := if shapeB k s r = true then (if k = 1 then ⟨k, s, r, keysN r.toNat, List.replicate r.toNat (zerosB s.toNat), 0⟩ else ⟨k, s, r, [], [], 0⟩) else ⟨0, 0, 0, [], [], 0⟩
theorem f37hash (k : Int) (hk : (k == 1) = false) (s r : Int) (w : World) :
 Calls Try.prog 84 #[.int .i64 k, .int .i64 s, .int .i64 r] w fun e w' => e = .returned (.agg #[.int .i64 k, .int .i64 s, .int .i64 r, .slice none 0 0, .slice none 0 0]) ∧ Below w.heap.size w w' := by
 go_enter Try.func84, Try.ntmps84
 go_wp2_with fail
 refine bodyPost_ret (v := .agg #[.int .i64 k, .int .i64 s, .int .i64 r, .slice none 0 0, .slice none 0 0]) (by simp [results, Try.results84, go_sem]) rfl ?_
 exact ⟨rfl, ((Below.refl _ _).alloc (Nat.le_refl _) _).alloc (by simp) _⟩
theorem f14 (k s r : Int) (w : World) :
 Calls Try.prog 69 #[.int .i64 k, .int .i64 s, .int .i64 r] w fun e w' => ∃ V, e = .returned V ∧ Tab w.heap.size w' (newT k s r).k (newT k s r).s (newT k s r).r (newT k s r).ks (newT k s r).vs V ∧ Below w.heap.size w w' := by
 have c1 : Below w.heap.size w (w.alloc (.cells #[.int .i64 0, .int .i64 0, .int .i64 0, .slice none 0 0, .slice none 0 0] 89)) := (Below.refl _ w).alloc (Nat.le_refl _) _
 have bR : Box5 (w.alloc (.cells #[.int .i64 0, .int .i64 0, .int .i64 0, .slice none 0 0, .slice none 0 0] 89)) w.heap.size 0 0 0 (.slice none 0 0) (.slice none 0 0) := World.alloc_heap_new w (.cells #[.int .i64 0, .int .i64 0, .int .i64 0, .slice none 0 0, .slice none 0 0] 89)
 have HC1 := hid c1
 have HBR := hid bR
 clear c1 bR
 cases h1 : inB k 1 2
 case false =>
  have hT : newT k s r = ⟨0, 0, 0, [], [], 0⟩ := by unfold newT; rw [if_neg (by simp [shapeB, *])]
  have HT := hid hT
  clear hT
  go_enter Try.func69, Try.ntmps69
  go_wp2_with (first | (go_at_call 56; refine (f36 _ _ _ _).mono ?_; rintro e w' ⟨rfl, hw⟩; rw [hw]; clear hw w'))
  refine bodyPost_ret (v := .agg #[.int .i64 0, .int .i64 0, .int .i64 0, .slice none 0 0, .slice none 0 0]) (by simp [results, Try.results69, go_sem]) rfl ?_
  rw [HT.out]
  exact ⟨_, rfl, Tab.nil _ _ _ _ _, (Below.refl _ _).alloc (Nat.le_refl _) _⟩
 cases h2 : inB s 1 8
 case false =>
  have hT : newT k s r = ⟨0, 0, 0, [], [], 0⟩ := by unfold newT; rw [if_neg (by simp [shapeB, *])]
  have HT := hid hT
  clear hT
  go_enter Try.func69, Try.ntmps69
  go_wp2_with (first | (go_at_call 56; refine (f36 _ _ _ _).mono ?_; rintro e w' ⟨rfl, hw⟩; rw [hw]; clear hw w'))
  refine bodyPost_ret (v := .agg #[.int .i64 0, .int .i64 0, .int .i64 0, .slice none 0 0, .slice none 0 0]) (by simp [results, Try.results69, go_sem]) rfl ?_
  rw [HT.out]
  exact ⟨_, rfl, Tab.nil _ _ _ _ _, (Below.refl _ _).alloc (Nat.le_refl _) _⟩
 cases h3 : inB r 1 8
 case false =>
  have hT : newT k s r = ⟨0, 0, 0, [], [], 0⟩ := by unfold newT; rw [if_neg (by simp [shapeB, *])]
  have HT := hid hT
  clear hT
  go_enter Try.func69, Try.ntmps69
  go_wp2_with (first | (go_at_call 56; refine (f36 _ _ _ _).mono ?_; rintro e w' ⟨rfl, hw⟩; rw [hw]; clear hw w'))
  refine bodyPost_ret (v := .agg #[.int .i64 0, .int .i64 0, .int .i64 0, .slice none 0 0, .slice none 0 0]) (by simp [results, Try.results69, go_sem]) rfl ?_
  rw [HT.out]
  exact ⟨_, rfl, Tab.nil _ _ _ _ _, (Below.refl _ _).alloc (Nat.le_refl _) _⟩
 have hsh : shapeB k s r = true := by simp [shapeB, h1, h2, h3]
 by_cases hk : k = 1
 ·obtain ⟨n, rfl⟩ : ∃ n : Nat, s = n := ⟨s.toNat, by simp [inB] at h2; omega⟩
  obtain ⟨m, rfl⟩ : ∃ m : Nat, r = m := ⟨r.toNat, by simp [inB] at h3; omega⟩
  have hn : n ≤ 8 := by simp [inB] at h2; omega
  have hm : m ≤ 8 := by simp [inB] at h3; omega
  obtain ⟨KS, hKS⟩ : ∃ KS, KS = keysN m := ⟨_, rfl⟩
  obtain ⟨VS, hVS⟩ : ∃ VS, VS = List.replicate m (zerosB n) := ⟨_, rfl⟩
  have hT : newT k n m = ⟨k, n, m, KS, VS, 0⟩ := by unfold newT; rw [if_pos hsh, if_pos hk, hKS, hVS]; simp
  have HKS := hid hKS
  have HVS := hid hVS
  clear hKS hVS
  have hk' : (k == 1) = true := by simpa using hk
  have HT := hid hT
  clear hT hk hsh
  go_enter Try.func69, Try.ntmps69
  go_wp2_with (first | (go_at_call 56; refine (f36 _ _ _ _).mono ?_; rintro e w' ⟨rfl, hw⟩; rw [hw]; clear hw w'))
  refine (f37row k hk' n m _ hn hm).mono ?_
  rw [← HKS.out, ← HVS.out]
  rintro e w1 ⟨V, rfl, htab, hb1⟩
  obtain ⟨v, u, rfl, rI0, rS0⟩ := htab
  have bR1 := Box5.below HBR.out hb1 (by simp)
  have c1 : Below w.heap.size w w1 := HC1.out.trans (hb1.mono (by simp))
  have rI := own_mono rI0 (show w.heap.size ≤ (w.alloc (.cells #[.int .i64 0, .int .i64 0, .int .i64 0, .slice none 0 0, .slice none 0 0] 89)).heap.size by simp)
  have rS := own_mono rS0 (show w.heap.size ≤ (w.alloc (.cells #[.int .i64 0, .int .i64 0, .int .i64 0, .slice none 0 0, .slice none 0 0] 89)).heap.size by simp)
  obtain ⟨va, vc, rfl⟩ := own_slice rI
  obtain ⟨ua, uc, rfl⟩ := own_slice rS
  clear rI0 rS0
  have R5 := row_st5 bR1 (by decide) rI (k' := k) (s' := (n : Int)) (r' := (m : Int)) (v' := .slice va (KS).length vc) (u' := .slice ua (VS).length uc)
  have T5 := row_st5 bR1 (by decide) rS (k' := k) (s' := (n : Int)) (r' := (m : Int)) (v' := .slice va (KS).length vc) (u' := .slice ua (VS).length uc)
  have HR5 := hid R5
  have HT5 := hid T5
  clear R5 T5 rI rS
  have B5 := st5_below (w.heap.size) k n m (.slice va (KS).length vc) (.slice ua (VS).length uc) c1 (by omega)
  have P5 := Box5.cells (Box5.st5 bR1 (k' := k) (s' := (n : Int)) (r' := (m : Int)) (v' := .slice va (KS).length vc) (u' := .slice ua (VS).length uc))
  obtain ⟨y0, y1, y2, y3, y4⟩ := Box5.cells bR1
  have fR := Box5.frozen bR1
  have HB5 := hid B5
  have HP5 := hid P5
  clear B5 P5
  go_wp2_with fail
  obtain ⟨p0, p1, p2, p3, p4⟩ := HP5.out
  unfold st5 at p0 p1 p2 p3 p4
  refine bodyPost_ret (v := .agg #[.int .i64 k, .int .i64 n, .int .i64 m, .slice va (KS).length vc, .slice ua (VS).length uc]) (by simp [results, Try.results69, go_sem, p0, p1, p2, p3, p4]) rfl ?_
  rw [HT.out]
  exact ⟨_, rfl, ⟨_, _, rfl, HR5.out, HT5.out⟩, HB5.out⟩
 ·have hT : newT k s r = ⟨k, s, r, [], [], 0⟩ := by unfold newT; rw [if_pos hsh, if_neg hk]
  have hk' : (k == 1) = false := by simpa using hk
  have HT := hid hT
  clear hT hk hsh
  go_enter Try.func69, Try.ntmps69
  go_wp2_with (first | (go_at_call 56; refine (f36 _ _ _ _).mono ?_; rintro e w' ⟨rfl, hw⟩; rw [hw]; clear hw w'))
  refine (f37hash k hk' s r _).mono ?_
  rintro e w1 ⟨rfl, hb1⟩
  have bR1 := Box5.below HBR.out hb1 (by simp)
  have c1 : Below w.heap.size w w1 := HC1.out.trans (hb1.mono (by simp))
  have B5 := st5_below (w.heap.size) k s r (.slice none 0 0) (.slice none 0 0) c1 (by omega)
  have P5 := Box5.cells (Box5.st5 bR1 (k' := k) (s' := s) (r' := r) (v' := .slice none 0 0) (u' := .slice none 0 0))
  obtain ⟨y0, y1, y2, y3, y4⟩ := Box5.cells bR1
  have fR := Box5.frozen bR1
  have HB5 := hid B5
  have HP5 := hid P5
  clear B5 P5
  go_wp2_with fail
  obtain ⟨p0, p1, p2, p3, p4⟩ := HP5.out
  unfold st5 at p0 p1 p2 p3 p4
  refine bodyPost_ret (v := .agg #[.int .i64 k, .int .i64 s, .int .i64 r, .slice none 0 0, .slice none 0 0]) (by simp [results, Try.results69, go_sem, p0, p1, p2, p3, p4]) rfl ?_
  rw [HT.out]
  exact ⟨_, rfl, Tab.nil _ _ _ _ _, HB5.out⟩
end Go.Proofs.Ytkaekiodjjhjkaa.G
namespace Go.Proofs.Ytkaekiodjjhjkaa.G
open Go.RowKit
end Go.Proofs.Ytkaekiodjjhjkaa.G
namespace Go.Proofs.Ytkaekiodjjhjkaa.G
open Go.RowKit
end Go.Proofs.Ytkaekiodjjhjkaa.G
namespace Go.Proofs.Ytkaekiodjjhjkaa.G
open Go.RowKit
theorem snoc_u8 (ws : List Int) (x : Int) : (ws ++ [x]).map (Value.int .u8) = ws.map (Value.int .u8) ++ [.int .u8 x] := by simp
theorem conv_row {w : World} {n₀ k : Nat} {v : Value} {xs : List Int} (hl : xs.length = k) (h : w.ownsRow n₀ 5 1 v k (xs.map (.int .u8))) : ∃ val : ByteArray, val.size = k ∧ (convert 22 9 v).run Try.prog w = .ok (.string val) w := by
 have h' := h
 rcases h.2 with ⟨rfl, rfl⟩ | ⟨g, cap, cur, rfl, _⟩
 ·exact ⟨ByteArray.empty, rfl, run_convert_bytes_nil (P := Try.prog) w 22 5 Try.underlying22 Try.underlying5 0 0 9 Try.underlying9⟩
 ·refine ⟨strOfNums xs, by simp [strOfNums, ByteArray.size, hl], run_convert_bytes_arg (P := Try.prog) w 22 5 Try.underlying22 Try.underlying5 g 0 k cap xs hl (fun i hi => ?_) 9 Try.underlying9⟩
  rw [Nat.zero_add, h'.cellAt i (by omega), List.getElem?_map, List.getElem?_eq_getElem (by omega)]
  simp [List.getD, List.getElem?_eq_getElem (show i < xs.length by omega)]
theorem l4Bytes_c (n : Int) (size : Nat) (w : World) (hs : size ≤ 8) :
 Calls Try.prog 71 #[.int .i64 n, .int .i64 size] w fun e w' => ∃ val : ByteArray, e = .returned (.string val) ∧ val.size = size ∧ Below w.heap.size w w' := by
 obtain ⟨i0, hi, hz0, hz1, hz2⟩ := info_parts info5
 have c0 : Below w.heap.size w (w.alloc (.cells #[] 5)) := (Below.refl _ _).alloc (Nat.le_refl _) _
 have o0 : (w.alloc (.cells #[] 5)).ownsRow w.heap.size 5 1 (.slice (some ⟨w.heap.size, 0, none⟩) 0 0) 0 [] := made0 w _ _ 5 rfl (Nat.le_refl _)
 have HC0 := hid c0
 have HO0 := hid o0
 clear c0 o0
 go_enter Try.func71, Try.ntmps71
 go_wp2_with fail
 go_loopw [0, 5, 6] (fun nn out i wr => ∃ (z : Int) (k : Nat) (xs : List Int), nn = .int .i64 z ∧ k ≤ size ∧ i = .int .i64 k ∧ xs.length = k ∧ wr.ownsRow w.heap.size 5 1 out k (xs.map (.int .u8)) ∧ Below w.heap.size w wr) (fun _ _ i _ => size - (intOf i).toNat)
 case atStart => exact ⟨n, 0, [], rfl, Nat.zero_le _, rfl, rfl, HO0.out, HC0.out⟩
 case round =>
  obtain ⟨z, k, xs, rfl, hk, rfl, hxs, hown, hbw⟩ := hrel
  have hsz := hbw.size
  obtain ⟨a0, cap0, rfl⟩ := own_slice hown
  by_cases hlt : k < size
  ·have hlt' : (k : Int) < (size : Int) := by omega
   have HX := hid hxs
   have HO := hid hown
   clear hxs hown
   go_wp2_with (first | (at_builtin; go_must (refine wpList_append_own _ rfl _ _ 22 rfl w.heap.size 5 i0 (.int .u8 0) 1 1 Try.underlying22 hi hz0 hz1 hz2 rfl (by decide) _ _ _ rfl (World.ownsRow.alloc HO.out _) ⟨wr.heap.size, 0, none⟩ 1 1 [_] rfl (by simp) (one_newE _ _ _ _ rfl) ?c2 ?c3 ?c4 ?c5 ?_)))
   case c2 => intro u hu; simp only [List.mem_cons, List.not_mem_nil, or_false] at hu; subst hu; rfl
   case c3 => unfold maxLen; omega
   case c4 => omega
   case c5 => simp; omega
   intro v' w3 hown3 hgrow _
   have hb3 : Below w.heap.size w w3 := (hbw.alloc (by omega) _).grown hgrow (by simp; omega) (own_base HO.out)
   rw [← snoc_u8] at hown3
   have H3 := hid hown3
   clear hown3 hgrow
   go_wp2_with fail
   go_roundw
   case rel => exact ⟨_, k + 1, _, rfl, by omega, by go_num, by simp [HX.out], H3.out, hb3⟩
   case measure => simp [intOf]; omega
  ·obtain rfl : k = size := by omega
   obtain ⟨val, hval, hconv⟩ := conv_row hxs hown
   have HX := hid hxs
   have HO := hid hown
   have HV := hid hval
   clear hxs hown hval
   go_wp2_with fail
   go_ret
   exact ⟨val, rfl, HV.out, hbw⟩
end Go.Proofs.Ytkaekiodjjhjkaa.G
