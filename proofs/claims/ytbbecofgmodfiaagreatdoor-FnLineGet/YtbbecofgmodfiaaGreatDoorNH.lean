/- Readers of the program: the first word, and the parts. -/
import Derived.Test.YtbbecofgmodfiaaGreatDoorNG
namespace Go.Proofs.YtbbecofgmodfiaaGreatDoor.G
open Go.RowKit
set_option linter.unusedVariables false
set_option linter.unusedSimpArgs false

/-- An op in a block that may be written. -/
structure D6 (w : World) (B : Nat) (o d s f i z : Int) : Prop where
  c0 : w.cell? ⟨B, 0, none⟩ = some (.int .i64 o)
  c1 : w.cell? ⟨B, 1, none⟩ = some (.int .i64 d)
  c2 : w.cell? ⟨B, 2, none⟩ = some (.int .i64 s)
  c3 : w.cell? ⟨B, 3, none⟩ = some (.int .i64 f)
  c4 : w.cell? ⟨B, 4, none⟩ = some (.int .i64 i)
  c5 : w.cell? ⟨B, 5, none⟩ = some (.int .i64 z)
  lt : B < w.heap.size
  fz : ∀ j, w.frozen? ⟨B, j, none⟩ = false
theorem D6.new (w : World) (o d s f i z : Int) (t : TypeId) : D6 (w.alloc (.cells #[.int .i64 o, .int .i64 d, .int .i64 s, .int .i64 f, .int .i64 i, .int .i64 z] t)) w.heap.size o d s f i z := by
  constructor <;> simp [go_sem]
theorem D6.bel {w w' : World} {B : Nat} {o d s f i z : Int} (h : D6 w B o d s f i z) (hb : Below w.heap.size w w') : D6 w' B o d s f i z :=
  ⟨(hb.cell h.lt).trans h.c0, (hb.cell h.lt).trans h.c1, (hb.cell h.lt).trans h.c2, (hb.cell h.lt).trans h.c3, (hb.cell h.lt).trans h.c4, (hb.cell h.lt).trans h.c5, Nat.lt_of_lt_of_le h.lt hb.size, fun j => (hb.frozen (p := ⟨B, j, none⟩) h.lt).trans (h.fz j)⟩
theorem D6.set2 {w : World} {B : Nat} {o d s f i z : Int} (h : D6 w B o d s f i z) (v : Int) : D6 (w.setCell ⟨B, 2, none⟩ (.int .i64 v)) B o d v f i z :=
  ⟨(World.cell?_setCell_other _ _ _ _ (by simp)).trans h.c0, (World.cell?_setCell_other _ _ _ _ (by simp)).trans h.c1, World.cell?_setCell_same _ _ _ h.c2, (World.cell?_setCell_other _ _ _ _ (by simp)).trans h.c3, (World.cell?_setCell_other _ _ _ _ (by simp)).trans h.c4, (World.cell?_setCell_other _ _ _ _ (by simp)).trans h.c5, by simpa using h.lt, fun j => by simpa using h.fz j⟩
theorem D6.setO {w : World} {B C j : Nat} {o d s f i z : Int} (h : D6 w B o d s f i z) (v : Value) (hne : B ≠ C) : D6 (w.setCell ⟨C, j, none⟩ v) B o d s f i z := by
  have ne : ∀ r, (w.setCell ⟨C, j, none⟩ v).cell? ⟨B, r, none⟩ = w.cell? ⟨B, r, none⟩ := fun r => World.cell?_setCell_other _ _ _ _ (fun e => hne (by injection e with h1; exact h1.symm))
  exact ⟨(ne _).trans h.c0, (ne _).trans h.c1, (ne _).trans h.c2, (ne _).trans h.c3, (ne _).trans h.c4, (ne _).trans h.c5, by simpa using h.lt, fun r => by simpa using h.fz r⟩
/-- The first word of an op, as the program writes it. -/
def firstS (k z : Nat) : ByteArray := if reachesB (k : Int) then wordsL.getD k ⟨#[]⟩ ++ decI (z : Int) else wordsL.getD k ⟨#[]⟩
def FirstIs (s : ByteArray) (y : Value) : Prop := (∃ k z : Nat, 1 ≤ k ∧ k ≤ 20 ∧ z ≤ 4 ∧ sizeFitsB (k : Int) (z : Int) = true ∧ firstS k z = s ∧ y = .agg #[.int .i64 (k : Int), .int .i64 0, .int .i64 (-1), .int .i64 0, .int .i64 0, .int .i64 (z : Int)]) ∨
  ((∀ k z : Nat, 1 ≤ k → k ≤ 20 → z ≤ 4 → sizeFitsB (k : Int) (z : Int) = true → firstS k z ≠ s) ∧ y = .agg #[.int .i64 0, .int .i64 0, .int .i64 0, .int .i64 0, .int .i64 0, .int .i64 0])
def AnF (s : ByteArray) (e : Ending) : Prop := ∃ y : Value, Hid (FirstIs s y) ∧ e = .returned y
theorem first_w (k z : Nat) (hk : k < 21) (hz : z ≤ 4) (w : World) (hT : Tabs w) : Calls Tryz.prog 14 #[.int .i64 (k : Int), .int .i64 (z : Int)] w fun e w' => AnE 25 (firstS k z) e ∧ Below w.heap.size w w' := by
  cases hr : reachesB (k : Int)
  · refine (first_0 k z hk hr w hT).mono ?_
    rintro e w' ⟨⟨x, hx, hxe, rfl⟩, hb⟩
    exact ⟨⟨x, by omega, hid (by rw [hxe.out]; unfold firstS; rw [hr]; rfl), rfl⟩, hb⟩
  · refine (first_1 k z hk hr (by omega) (by omega) w hT).mono ?_
    rintro e w' ⟨⟨x, hx, hxe, rfl⟩, hb⟩
    exact ⟨⟨x, hx, hid (by rw [hxe.out]; unfold firstS; rw [hr]; rfl), rfl⟩, hb⟩

set_option maxRecDepth 100000 in
set_option maxHeartbeats 4000000 in
theorem firstG_w (s : ByteArray) (w : World) (hT : Tabs w) : Calls Tryz.prog 20 #[.string s] w fun e w' => AnF s e ∧ Below w.heap.size w w' := by
  have HT := hid hT
  have HX0 := hid (D6.new w 0 0 0 0 0 0 24)
  have HZ0 := hid (belA w (.cells #[.int .i64 0, .int .i64 0, .int .i64 0, .int .i64 0, .int .i64 0, .int .i64 0] 24))
  clear hT
  go_enter Tryz.func20, Tryz.ntmps20
  go_wp2_with fail
  go_loopw [3] (fun i wr => ∃ k : Nat, 1 ≤ k ∧ k ≤ 21 ∧ i = .int .i64 k ∧ Hid (Below w.heap.size w wr) ∧ Hid (D6 wr w.heap.size 0 0 0 0 0 0) ∧ Hid (∀ k' z : Nat, 1 ≤ k' → k' < k → z ≤ 4 → sizeFitsB (k' : Int) (z : Int) = true → firstS k' z ≠ s)) (fun i _ => 21 - (intOf i).toNat)
  case atStart => exact ⟨1, Nat.le_refl _, by omega, rfl, HZ0, HX0, hid (fun k' z h1 h2 => by omega)⟩
  case round =>
    clear HX0 HZ0
    obtain ⟨k, hk1, hk21, rfl, HZ, HX, HD⟩ := hrel
    by_cases hlt : k ≤ 20
    · have hlt' : (k : Int) ≤ 20 := by omega
      have hk0 : (1 : Int) ≤ (k : Int) := by omega
      go_wp2_with fail
      go_loopw [4] (fun i wr => ∃ z : Nat, z ≤ 5 ∧ i = .int .i64 z ∧ Hid (Below w.heap.size w wr) ∧ Hid (D6 wr w.heap.size 0 0 0 0 0 0) ∧ Hid (∀ z' : Nat, z' < z → sizeFitsB (k : Int) (z' : Int) = true → firstS k z' ≠ s)) (fun i _ => 5 - (intOf i).toNat)
      case atStart => exact ⟨0, by omega, rfl, HZ, HX, hid (fun z' h => by omega)⟩
      case round =>
        obtain ⟨z, hz5, rfl, HZ, HX, HE⟩ := hrel
        by_cases hzl : z ≤ 4
        · have hzl' : (z : Int) ≤ 4 := by omega
          have hz0 : (0 : Int) ≤ (z : Int) := by omega
          go_wp2_with fail
          refine (f33 _ _ _).mono ?_
          rintro e w1 ⟨rfl, hw⟩
          rw [hw]
          clear hw w1
          cases hfit : sizeFitsB (k : Int) (z : Int)
          · have HF := hid hfit
            clear hfit
            go_wp2_with fail
            go_roundw
            case rel => exact ⟨z + 1, by omega, by go_num, HZ, HX, hid (fun z' h1 h2 => by
              by_cases e : z' = z
              · subst e; rw [HF.out] at h2; cases h2
              · exact HE.out z' (by omega) h2)⟩
            case measure => simp [intOf]; omega
          · have HF := hid hfit
            clear hfit
            go_wp2_with fail
            refine (first_w k z (by omega) hzl _ (HT.out.below HZ.out)).mono ?_
            rintro e w2 ⟨⟨x, hx, hxe, rfl⟩, b2⟩
            replace HX := hid (HX.out.bel b2)
            replace HZ := hid (HZ.out.to b2)
            clear b2
            cases hv : (x.toList == s.toList)
            · have HV : Hid (¬ firstS k z = s) := hid (fun h => by rw [← hxe.out] at h; rw [(str_eq _ _).2 h] at hv; cases hv)
              go_wp2_with fail
              go_roundw
              case rel => exact ⟨z + 1, by omega, by go_num, HZ, HX, hid (fun z' h1 h2 => by
                by_cases e : z' = z
                · subst e; exact HV.out
                · exact HE.out z' (by omega) h2)⟩
              case measure => simp [intOf]; omega
            · have HV : Hid (firstS k z = s) := hid (by rw [← hxe.out]; exact (str_eq _ _).1 hv)
              obtain ⟨c0, c1, c2, c3, c4, c5, cl, cf⟩ := HX.out
              go_wp2_with fail
              refine bodyPost_ret (v := .agg #[.int .i64 (k : Int), .int .i64 0, .int .i64 (-1), .int .i64 0, .int .i64 0, .int .i64 (z : Int)]) (by simp [results, Tryz.results20, go_sem, c0, c1, c2, c3, c4, c5]) rfl ⟨⟨_, hid (.inl ⟨k, z, hk1, hlt, hzl, HF.out, HV.out, rfl⟩), rfl⟩, ?_⟩
              exact ((((((HZ.out.setCell (Nat.le_refl _) _).setCell (Nat.le_refl _) _).setCell (Nat.le_refl _) _).setCell (Nat.le_refl _) _).setCell (Nat.le_refl _) _).setCell (Nat.le_refl _) _)
        · obtain rfl : z = 5 := by omega
          go_wp2_with fail
          go_roundw
          case rel => exact ⟨k + 1, by omega, by omega, by go_num, HZ, HX, hid (fun k' z h1 h2 h3 h4 => by
            by_cases e : k' = k
            · subst e; exact HE.out z (by omega) h4
            · exact HD.out k' z h1 (by omega) h3 h4)⟩
          case measure => simp [intOf]; omega
    · obtain rfl : k = 21 := by omega
      obtain ⟨c0, c1, c2, c3, c4, c5, cl, cf⟩ := HX.out
      go_wp2_with fail
      refine bodyPost_ret (v := .agg #[.int .i64 0, .int .i64 0, .int .i64 0, .int .i64 0, .int .i64 0, .int .i64 0]) (by simp [results, Tryz.results20, go_sem, c0, c1, c2, c3, c4, c5]) rfl ⟨⟨_, hid (.inr ⟨fun k' z h1 h2 h3 h4 => HD.out k' z h1 (by omega) h3 h4, rfl⟩), rfl⟩, ?_⟩
      exact ((((((HZ.out.setCell (Nat.le_refl _) _).setCell (Nat.le_refl _) _).setCell (Nat.le_refl _) _).setCell (Nat.le_refl _) _).setCell (Nat.le_refl _) _).setCell (Nat.le_refl _) _)

set_option maxRecDepth 100000 in
set_option maxHeartbeats 4000000 in
theorem gpart_d (o d s f i z : Int) (x : ByteArray) (hx : x.size ≤ 281474976710656) (w : World) (hT : TabsG w) : Calls Tryz.prog 21 #[.agg #[.int .i64 o, .int .i64 d, .int .i64 s, .int .i64 f, .int .i64 i, .int .i64 z], .int .u8 100, .string x] w fun e w' => (∃ (a : Int) (q : Bool), Hid (a = (regP x).1 ∧ q = (regP x).2) ∧ e = .returned (.tuple #[.agg #[.int .i64 o, .int .i64 a, .int .i64 s, .int .i64 f, .int .i64 i, .int .i64 z], .bool q])) ∧ Below w.heap.size w w' := by
  have HT := hid hT
  have hX := (D6.new w o d s f i z 24).bel (belA _ (.cells #[.int .i64 0, .int .i64 0, .int .i64 0, .int .i64 0, .int .i64 0, .int .i64 0] 24))
  have hY := D6.new (w.alloc (.cells #[.int .i64 o, .int .i64 d, .int .i64 s, .int .i64 f, .int .i64 i, .int .i64 z] 24)) 0 0 0 0 0 0 24
  have HX := hid hX
  have HY := hid hY
  have HZ0 := hid ((belA w (.cells #[.int .i64 o, .int .i64 d, .int .i64 s, .int .i64 f, .int .i64 i, .int .i64 z] 24)).to (belA _ (.cells #[.int .i64 0, .int .i64 0, .int .i64 0, .int .i64 0, .int .i64 0, .int .i64 0] 24)))
  clear hT hX hY
  go_enter Tryz.func21, Tryz.ntmps21
  go_wp2_with fail
  refine (regG_w x hx _ (HT.out.below HZ0.out)).mono ?_
  rintro e w1 ⟨⟨a, q, ha, hq, rfl⟩, b1⟩
  have X1 := HX.out.bel b1
  have Y1 := HY.out.bel b1
  have HZ := hid (HZ0.out.to b1)
  simp only [World.size_alloc] at Y1
  clear HX HY HZ0 b1
  obtain ⟨c0, c1, c2, c3, c4, c5, cl, cf⟩ := X1
  obtain ⟨d0, d1, d2, d3, d4, d5, dl, df⟩ := Y1
  go_wp2_with fail
  refine bodyPost_ret (v := .tuple #[.agg #[.int .i64 o, .int .i64 a, .int .i64 s, .int .i64 f, .int .i64 i, .int .i64 z], .bool q]) (by simp [results, Tryz.results21, go_sem, d0, d1, d2, d3, d4, d5]) rfl ⟨⟨a, q, hid ⟨ha.out, hq.out⟩, rfl⟩, ?_⟩
  exact (((((((HZ.out.setCell (by dsimp only; omega) _).setCell (by dsimp only; omega) _).setCell (by dsimp only; omega) _).setCell (by dsimp only; omega) _).setCell (by dsimp only; omega) _).setCell (by dsimp only; omega) _).setCell (by dsimp only; omega) _)

set_option maxRecDepth 100000 in
set_option maxHeartbeats 4000000 in
theorem gpart_o (o d s f i z : Int) (x : ByteArray) (hx : x.size ≤ 281474976710656) (w : World) (hT : TabsG w) : Calls Tryz.prog 21 #[.agg #[.int .i64 o, .int .i64 d, .int .i64 s, .int .i64 f, .int .i64 i, .int .i64 z], .int .u8 111, .string x] w fun e w' => (∃ (a : Int) (q : Bool), Hid (a = (atoiP x).1 ∧ q = (atoiP x).2) ∧ e = .returned (.tuple #[.agg #[.int .i64 o, .int .i64 d, .int .i64 s, .int .i64 a, .int .i64 i, .int .i64 z], .bool q])) ∧ Below w.heap.size w w' := by
  have HT := hid hT
  have hX := (D6.new w o d s f i z 24).bel (belA _ (.cells #[.int .i64 0, .int .i64 0, .int .i64 0, .int .i64 0, .int .i64 0, .int .i64 0] 24))
  have hY := D6.new (w.alloc (.cells #[.int .i64 o, .int .i64 d, .int .i64 s, .int .i64 f, .int .i64 i, .int .i64 z] 24)) 0 0 0 0 0 0 24
  have HX := hid hX
  have HY := hid hY
  have HZ0 := hid ((belA w (.cells #[.int .i64 o, .int .i64 d, .int .i64 s, .int .i64 f, .int .i64 i, .int .i64 z] 24)).to (belA _ (.cells #[.int .i64 0, .int .i64 0, .int .i64 0, .int .i64 0, .int .i64 0, .int .i64 0] 24)))
  clear hT hX hY
  go_enter Tryz.func21, Tryz.ntmps21
  go_wp2_with fail
  refine (num_w x hx _ (HT.out.below HZ0.out)).mono ?_
  rintro e w1 ⟨⟨a, q, ha, hq, rfl⟩, b1⟩
  have X1 := HX.out.bel b1
  have Y1 := HY.out.bel b1
  have HZ := hid (HZ0.out.to b1)
  simp only [World.size_alloc] at Y1
  clear HX HY HZ0 b1
  obtain ⟨c0, c1, c2, c3, c4, c5, cl, cf⟩ := X1
  obtain ⟨d0, d1, d2, d3, d4, d5, dl, df⟩ := Y1
  go_wp2_with fail
  refine bodyPost_ret (v := .tuple #[.agg #[.int .i64 o, .int .i64 d, .int .i64 s, .int .i64 a, .int .i64 i, .int .i64 z], .bool q]) (by simp [results, Tryz.results21, go_sem, d0, d1, d2, d3, d4, d5]) rfl ⟨⟨a, q, hid ⟨ha.out, hq.out⟩, rfl⟩, ?_⟩
  exact (((((((HZ.out.setCell (by dsimp only; omega) _).setCell (by dsimp only; omega) _).setCell (by dsimp only; omega) _).setCell (by dsimp only; omega) _).setCell (by dsimp only; omega) _).setCell (by dsimp only; omega) _).setCell (by dsimp only; omega) _)

set_option maxRecDepth 100000 in
set_option maxHeartbeats 4000000 in
theorem gpart_c (o d s f i z : Int) (x : ByteArray) (hx : x.size ≤ 281474976710656) (w : World) (hT : TabsG w) : Calls Tryz.prog 21 #[.agg #[.int .i64 o, .int .i64 d, .int .i64 s, .int .i64 f, .int .i64 i, .int .i64 z], .int .u8 99, .string x] w fun e w' => (∃ (a : Int) (q : Bool), Hid (CallIs x (a, q)) ∧ e = .returned (.tuple #[.agg #[.int .i64 o, .int .i64 d, .int .i64 s, .int .i64 f, .int .i64 a, .int .i64 z], .bool q])) ∧ Below w.heap.size w w' := by
  have HT := hid hT
  have hX := (D6.new w o d s f i z 24).bel (belA _ (.cells #[.int .i64 0, .int .i64 0, .int .i64 0, .int .i64 0, .int .i64 0, .int .i64 0] 24))
  have hY := D6.new (w.alloc (.cells #[.int .i64 o, .int .i64 d, .int .i64 s, .int .i64 f, .int .i64 i, .int .i64 z] 24)) 0 0 0 0 0 0 24
  have HX := hid hX
  have HY := hid hY
  have HZ0 := hid ((belA w (.cells #[.int .i64 o, .int .i64 d, .int .i64 s, .int .i64 f, .int .i64 i, .int .i64 z] 24)).to (belA _ (.cells #[.int .i64 0, .int .i64 0, .int .i64 0, .int .i64 0, .int .i64 0, .int .i64 0] 24)))
  clear hT hX hY
  go_enter Tryz.func21, Tryz.ntmps21
  go_wp2_with fail
  refine (callG_w x _ (HT.out.below HZ0.out).t).mono ?_
  rintro e w1 ⟨⟨a, q, ha, rfl⟩, hw⟩
  have b1 : Below ((w.alloc (.cells #[.int .i64 o, .int .i64 d, .int .i64 s, .int .i64 f, .int .i64 i, .int .i64 z] 24)).alloc (.cells #[.int .i64 0, .int .i64 0, .int .i64 0, .int .i64 0, .int .i64 0, .int .i64 0] 24)).heap.size ((w.alloc (.cells #[.int .i64 o, .int .i64 d, .int .i64 s, .int .i64 f, .int .i64 i, .int .i64 z] 24)).alloc (.cells #[.int .i64 0, .int .i64 0, .int .i64 0, .int .i64 0, .int .i64 0, .int .i64 0] 24)) w1 := by rw [hw]; exact Below.refl _ _
  clear hw
  have X1 := HX.out.bel b1
  have Y1 := HY.out.bel b1
  have HZ := hid (HZ0.out.to b1)
  simp only [World.size_alloc] at Y1
  clear HX HY HZ0 b1
  obtain ⟨c0, c1, c2, c3, c4, c5, cl, cf⟩ := X1
  obtain ⟨d0, d1, d2, d3, d4, d5, dl, df⟩ := Y1
  go_wp2_with fail
  refine bodyPost_ret (v := .tuple #[.agg #[.int .i64 o, .int .i64 d, .int .i64 s, .int .i64 f, .int .i64 a, .int .i64 z], .bool q]) (by simp [results, Tryz.results21, go_sem, d0, d1, d2, d3, d4, d5]) rfl ⟨⟨a, q, ha, rfl⟩, ?_⟩
  exact (((((((HZ.out.setCell (by dsimp only; omega) _).setCell (by dsimp only; omega) _).setCell (by dsimp only; omega) _).setCell (by dsimp only; omega) _).setCell (by dsimp only; omega) _).setCell (by dsimp only; omega) _).setCell (by dsimp only; omega) _)

set_option maxRecDepth 100000 in
set_option maxHeartbeats 4000000 in
theorem gpart_x (o d s f i z : Int) (x : ByteArray) (hx : x.size ≤ 281474976710656) (w : World) (hT : TabsG w) : Calls Tryz.prog 21 #[.agg #[.int .i64 o, .int .i64 d, .int .i64 s, .int .i64 f, .int .i64 i, .int .i64 z], .int .u8 120, .string x] w fun e w' => ((∃ (a : Int), Hid (a = (regP x).1 ∧ (regP x).2 = true) ∧ e = .returned (.tuple #[.agg #[.int .i64 o, .int .i64 d, .int .i64 a, .int .i64 f, .int .i64 i, .int .i64 z], .bool true])) ∨ (∃ (b : Int) (q : Bool), Hid ((regP x).2 = false ∧ b = (atoiP x).1 ∧ q = (atoiP x).2) ∧ e = .returned (.tuple #[.agg #[.int .i64 o, .int .i64 d, .int .i64 (-1), .int .i64 f, .int .i64 b, .int .i64 z], .bool q]))) ∧ Below w.heap.size w w' := by
  have HT := hid hT
  have hX := (D6.new w o d s f i z 24).bel (belA _ (.cells #[.int .i64 0, .int .i64 0, .int .i64 0, .int .i64 0, .int .i64 0, .int .i64 0] 24))
  have hY := D6.new (w.alloc (.cells #[.int .i64 o, .int .i64 d, .int .i64 s, .int .i64 f, .int .i64 i, .int .i64 z] 24)) 0 0 0 0 0 0 24
  have HX := hid hX
  have HY := hid hY
  have HZ0 := hid ((belA w (.cells #[.int .i64 o, .int .i64 d, .int .i64 s, .int .i64 f, .int .i64 i, .int .i64 z] 24)).to (belA _ (.cells #[.int .i64 0, .int .i64 0, .int .i64 0, .int .i64 0, .int .i64 0, .int .i64 0] 24)))
  clear hT hX hY
  go_enter Tryz.func21, Tryz.ntmps21
  go_wp2_with fail
  refine (regG_w x hx _ (HT.out.below HZ0.out)).mono ?_
  rintro e w1 ⟨⟨a, q, ha, hq, rfl⟩, b1⟩
  have X1 := HX.out.bel b1
  have Y1 := HY.out.bel b1
  have HZ := hid (HZ0.out.to b1)
  simp only [World.size_alloc] at Y1
  clear HX HY HZ0 b1
  have HX := hid X1
  have HY := hid Y1
  obtain ⟨c0, c1, c2, c3, c4, c5, cl, cf⟩ := X1
  obtain ⟨d0, d1, d2, d3, d4, d5, dl, df⟩ := Y1
  cases q
  · go_wp2_with fail
    have C2 := hid ((HZ.out.setCell (p := ⟨w.heap.size, 2, none⟩) (by dsimp only; omega) (.int .i64 a)).setCell (p := ⟨w.heap.size, 2, none⟩) (by dsimp only; omega) (.int .i64 (-1)))
    have X2 := (HX.out.set2 a).set2 (-1)
    have Y2 := (HY.out.setO (C := w.heap.size) (j := 2) (.int .i64 a) (by omega)).setO (C := w.heap.size) (j := 2) (.int .i64 (-1)) (by omega)
    clear HX HY HZ c0 c1 c2 c3 c4 c5 cl cf d0 d1 d2 d3 d4 d5 dl df
    generalize (w1.setCell ⟨w.heap.size, 2, none⟩ (.int .i64 a)).setCell ⟨w.heap.size, 2, none⟩ (.int .i64 (-1)) = w2 at *
    refine (num_w x hx _ (HT.out.below C2.out)).mono ?_
    rintro e w3 ⟨⟨b, q, hb, hq2, rfl⟩, b3⟩
    have X3 := X2.bel b3
    have Y3 := Y2.bel b3
    have HZ := hid (C2.out.to b3)
    clear X2 Y2 C2 b3
    obtain ⟨c0, c1, c2, c3, c4, c5, cl, cf⟩ := X3
    obtain ⟨d0, d1, d2, d3, d4, d5, dl, df⟩ := Y3
    go_wp2_with fail
    refine bodyPost_ret (v := .tuple #[.agg #[.int .i64 o, .int .i64 d, .int .i64 (-1), .int .i64 f, .int .i64 b, .int .i64 z], .bool q]) (by simp [results, Tryz.results21, go_sem, d0, d1, d2, d3, d4, d5]) rfl ⟨.inr ⟨b, q, hid ⟨hq.out.symm, hb.out, hq2.out⟩, rfl⟩, ?_⟩
    exact (((((((HZ.out.setCell (by dsimp only; omega) _).setCell (by dsimp only; omega) _).setCell (by dsimp only; omega) _).setCell (by dsimp only; omega) _).setCell (by dsimp only; omega) _).setCell (by dsimp only; omega) _).setCell (by dsimp only; omega) _)
  · go_wp2_with fail
    refine bodyPost_ret (v := .tuple #[.agg #[.int .i64 o, .int .i64 d, .int .i64 a, .int .i64 f, .int .i64 i, .int .i64 z], .bool true]) (by simp [results, Tryz.results21, go_sem, d0, d1, d2, d3, d4, d5]) rfl ⟨.inl ⟨a, hid ⟨ha.out, hq.out.symm⟩, rfl⟩, ?_⟩
    exact (((((((HZ.out.setCell (by dsimp only; omega) _).setCell (by dsimp only; omega) _).setCell (by dsimp only; omega) _).setCell (by dsimp only; omega) _).setCell (by dsimp only; omega) _).setCell (by dsimp only; omega) _).setCell (by dsimp only; omega) _)

end Go.Proofs.YtbbecofgmodfiaaGreatDoor.G
