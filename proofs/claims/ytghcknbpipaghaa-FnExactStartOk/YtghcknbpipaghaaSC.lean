/- Starts: sizes and copies. -/
import Derived.Test.YtghcknbpipaghaaSB
import Derived.Test.YtghcknbpipaghaaQT2
namespace Go.Proofs.Ytghcknbpipaghaa
open Go.RowKit
set_option linter.unusedSimpArgs false
set_option linter.unusedVariables false

/-- Five values in a block. -/
structure BoxS (w : World) (B : Nat) (v0 v1 v2 v3 v4 : Value) : Prop where
  c0 : w.cell? ⟨B, 0, none⟩ = some v0
  c1 : w.cell? ⟨B, 1, none⟩ = some v1
  c2 : w.cell? ⟨B, 2, none⟩ = some v2
  c3 : w.cell? ⟨B, 3, none⟩ = some v3
  c4 : w.cell? ⟨B, 4, none⟩ = some v4
  lt : B < w.heap.size
  fz : ∀ o, w.frozen? ⟨B, o, none⟩ = false
theorem BoxS.below {w w' : World} {B n : Nat} {v0 v1 v2 v3 v4 : Value} (h : BoxS w B v0 v1 v2 v3 v4) (hb : Below n w w') (hB : B < n) : BoxS w' B v0 v1 v2 v3 v4 :=
  ⟨(hb.cell hB).trans h.c0, (hb.cell hB).trans h.c1, (hb.cell hB).trans h.c2, (hb.cell hB).trans h.c3, (hb.cell hB).trans h.c4, Nat.lt_of_lt_of_le h.lt hb.size, fun o => (hb.frozen (p := ⟨B, o, none⟩) hB).trans (h.fz o)⟩
theorem BoxS.set {w : World} {B : Nat} {v0 v1 v2 v3 v4 : Value} (h : BoxS w B v0 v1 v2 v3 v4) (a : Addr) (v : Value) (ha : a.block ≠ B) : BoxS (w.setCell a v) B v0 v1 v2 v3 v4 := by
  have ne : ∀ r, (w.setCell a v).cell? ⟨B, r, none⟩ = w.cell? ⟨B, r, none⟩ := fun r => World.cell?_setCell_other _ _ _ _ (fun e => ha (by rw [e]))
  exact ⟨(ne _).trans h.c0, (ne _).trans h.c1, (ne _).trans h.c2, (ne _).trans h.c3, (ne _).trans h.c4, by simpa using h.lt, fun o => by simpa using h.fz o⟩
theorem BoxS.new (w : World) (v0 v1 v2 v3 v4 : Value) (t : TypeId) : BoxS (w.alloc (.cells #[v0, v1, v2, v3, v4] t)) w.heap.size v0 v1 v2 v3 v4 := by
  constructor <;> simp [go_sem]
theorem BoxS.alloc {w : World} {B : Nat} {v0 v1 v2 v3 v4 : Value} (h : BoxS w B v0 v1 v2 v3 v4) (o : Obj) : BoxS (w.alloc o) B v0 v1 v2 v3 v4 := h.below ((Below.refl _ _).alloc (Nat.le_refl _) _) h.lt
theorem setc {w : World} {B i j : Nat} {v u : Value} (h : w.cell? ⟨B, j, none⟩ = some u) (hij : i ≠ j) : (w.setCell ⟨B, i, none⟩ v).cell? ⟨B, j, none⟩ = some u := (World.cell?_setCell_other _ _ _ _ (by intro e; injection e with _ h2; omega)).trans h
theorem BoxS.st0 {w : World} {B : Nat} {v0 v1 v2 v3 v4 : Value} (h : BoxS w B v0 v1 v2 v3 v4) (v : Value) : BoxS (w.setCell ⟨B, 0, none⟩ v) B v v1 v2 v3 v4 :=
  ⟨World.cell?_setCell_same _ _ _ h.c0, setc h.c1 (by decide), setc h.c2 (by decide), setc h.c3 (by decide), setc h.c4 (by decide), by simpa using h.lt, fun o => by simpa using h.fz o⟩
theorem BoxS.st1 {w : World} {B : Nat} {v0 v1 v2 v3 v4 : Value} (h : BoxS w B v0 v1 v2 v3 v4) (v : Value) : BoxS (w.setCell ⟨B, 1, none⟩ v) B v0 v v2 v3 v4 :=
  ⟨setc h.c0 (by decide), World.cell?_setCell_same _ _ _ h.c1, setc h.c2 (by decide), setc h.c3 (by decide), setc h.c4 (by decide), by simpa using h.lt, fun o => by simpa using h.fz o⟩
theorem BoxS.st2 {w : World} {B : Nat} {v0 v1 v2 v3 v4 : Value} (h : BoxS w B v0 v1 v2 v3 v4) (v : Value) : BoxS (w.setCell ⟨B, 2, none⟩ v) B v0 v1 v v3 v4 :=
  ⟨setc h.c0 (by decide), setc h.c1 (by decide), World.cell?_setCell_same _ _ _ h.c2, setc h.c3 (by decide), setc h.c4 (by decide), by simpa using h.lt, fun o => by simpa using h.fz o⟩
theorem BoxS.st3 {w : World} {B : Nat} {v0 v1 v2 v3 v4 : Value} (h : BoxS w B v0 v1 v2 v3 v4) (v : Value) : BoxS (w.setCell ⟨B, 3, none⟩ v) B v0 v1 v2 v v4 :=
  ⟨setc h.c0 (by decide), setc h.c1 (by decide), setc h.c2 (by decide), World.cell?_setCell_same _ _ _ h.c3, setc h.c4 (by decide), by simpa using h.lt, fun o => by simpa using h.fz o⟩
theorem BoxS.st4 {w : World} {B : Nat} {v0 v1 v2 v3 v4 : Value} (h : BoxS w B v0 v1 v2 v3 v4) (v : Value) : BoxS (w.setCell ⟨B, 4, none⟩ v) B v0 v1 v2 v3 v :=
  ⟨setc h.c0 (by decide), setc h.c1 (by decide), setc h.c2 (by decide), setc h.c3 (by decide), World.cell?_setCell_same _ _ _ h.c4, by simpa using h.lt, fun o => by simpa using h.fz o⟩

/-- A start as an argument. -/
structure StA (w : World) (a1 a2 a3 a4 : Option Addr) (xs : List Q.I6) (ts : List TT) (rs ss : List Int) : Prop where
  x : Q.ArgRow w a1 xs
  t : ArgT w a2 ts
  r : ArgI w a3 rs
  s : ArgI w a4 ss
theorem StA.below {w w' : World} {a1 a2 a3 a4 : Option Addr} {xs : List Q.I6} {ts : List TT} {rs ss : List Int} (h : StA w a1 a2 a3 a4 xs ts rs ss) (hb : Below w.heap.size w w') : StA w' a1 a2 a3 a4 xs ts rs ss :=
  ⟨h.x.below hb (Nat.le_refl _), h.t.below hb (Nat.le_refl _), h.r.below hb (Nat.le_refl _), h.s.below hb (Nat.le_refl _)⟩
structure StN (xs : List Q.I6) (came : ByteArray) (ts : List TT) (rs ss : List Int) : Prop where
  x : xs.length ≤ 1048576
  t : ts.length ≤ 1048576
  tt : ∀ t ∈ ts, t.small
  r : rs.length ≤ 1048576
  s : ss.length ≤ 1048576
/-- A start that a copy holds. -/
structure StO (w : World) (g1 g2 g3 g4 : Nat) (xs : List Q.I6) (ts : List TT) (rs ss : List Int) : Prop where
  x : Q.InsRow w g1 0 xs
  t : RowO w g2 ts
  r : IntRow w g3 0 rs
  s : IntRow w g4 0 ss
  l1 : g1 < w.heap.size
  l2 : g2 < w.heap.size
  l3 : g3 < w.heap.size
  l4 : g4 < w.heap.size
theorem StO.below {w w' : World} {g1 g2 g3 g4 : Nat} {xs : List Q.I6} {ts : List TT} {rs ss : List Int} (h : StO w g1 g2 g3 g4 xs ts rs ss) (hb : Below w.heap.size w w') : StO w' g1 g2 g3 g4 xs ts rs ss :=
  ⟨h.x.below hb h.l1, h.t.below hb h.l2, h.r.below hb h.l3, h.s.below hb h.l4, Nat.lt_of_lt_of_le h.l1 hb.size, Nat.lt_of_lt_of_le h.l2 hb.size, Nat.lt_of_lt_of_le h.l3 hb.size, Nat.lt_of_lt_of_le h.l4 hb.size⟩
theorem InsRow.setq {w : World} {b p : Nat} {xs : List Q.I6} (h : Q.InsRow w b p xs) (a : Addr) (v : Value) (ha : a.block ≠ b) : Q.InsRow (w.setCell a v) b p xs := fun k hk => by
  have ne : ∀ r, (w.setCell a v).cell? ⟨b, r, none⟩ = w.cell? ⟨b, r, none⟩ := fun r => World.cell?_setCell_other _ _ _ _ (fun e => ha (by rw [e]))
  obtain ⟨h0, h1, h2, h3, h4, h5⟩ := h k hk
  exact ⟨(ne _).trans h0, (ne _).trans h1, (ne _).trans h2, (ne _).trans h3, (ne _).trans h4, (ne _).trans h5⟩
theorem StO.set {w : World} {g1 g2 g3 g4 : Nat} {xs : List Q.I6} {ts : List TT} {rs ss : List Int} (h : StO w g1 g2 g3 g4 xs ts rs ss) (a : Addr) (v : Value) (h1 : a.block < g1) (h2 : a.block < g2) (h3 : a.block < g3) (h4 : a.block < g4) : StO (w.setCell a v) g1 g2 g3 g4 xs ts rs ss :=
  ⟨InsRow.setq h.x _ _ (by omega), h.t.set _ _ h2, h.r.set _ _ (by omega), h.s.set _ _ (by omega), by simpa using h.l1, by simpa using h.l2, by simpa using h.l3, by simpa using h.l4⟩
theorem StO.arg {w : World} {g1 g2 g3 g4 : Nat} {xs : List Q.I6} {ts : List TT} {rs ss : List Int} (h : StO w g1 g2 g3 g4 xs ts rs ss) : StA w (some ⟨g1, 0, none⟩) (some ⟨g2, 0, none⟩) (some ⟨g3, 0, none⟩) (some ⟨g4, 0, none⟩) xs ts rs ss :=
  ⟨.inr ⟨g1, 0, rfl, h.l1, h.x⟩, h.t.arg h.l2, .inr ⟨g3, 0, rfl, h.l3, h.r⟩, .inr ⟨g4, 0, rfl, h.l4, h.s⟩⟩

set_option maxRecDepth 100000 in
set_option maxHeartbeats 4000000 in
theorem toSt (xs : List Q.I6) (came : ByteArray) (ts : List TT) (rs ss : List Int) (a1 a2 a3 a4 : Option Addr) (c1 c2 c3 c4 : Nat) (w : World) (hA : StA w a1 a2 a3 a4 xs ts rs ss) (hN : StN xs came ts rs ss) :
    Calls Try.prog 6 #[.agg #[.slice a1 xs.length c1, .string came, .slice a2 ts.length c2, .slice a3 rs.length c3, .slice a4 ss.length c4]] w fun e w' => ∃ g1 g2 g3 g4 : Nat, e = .returned (.agg #[.slice (some ⟨g1, 0, none⟩) xs.length xs.length, .string came, .slice (some ⟨g2, 0, none⟩) ts.length ts.length, .slice (some ⟨g3, 0, none⟩) rs.length rs.length, .slice (some ⟨g4, 0, none⟩) ss.length ss.length]) ∧ StO w' g1 g2 g3 g4 xs ts rs ss ∧ w.heap.size < g1 ∧ g1 < g2 ∧ g2 < g3 ∧ g3 < g4 ∧ Below w.heap.size w w' := by
  have HA : Hid (StA w a1 a2 a3 a4 xs ts rs ss) := hA
  have HN : Hid (StN xs came ts rs ss) := hN
  clear hA hN
  have c0 : ∀ X Y Z, Below w.heap.size w (((w.alloc X).alloc Y).alloc Z) := fun X Y Z => (((Below.refl _ _).alloc (Nat.le_refl _) _).alloc (by simp) _).alloc (by simp; omega) _
  have b0 := BoxS.new w (.slice a1 xs.length c1) (.string came) (.slice a2 ts.length c2) (.slice a3 rs.length c3) (.slice a4 ss.length c4) 26
  have b1 := (b0.alloc (.cells #[.slice none 0 0, .string ⟨#[]⟩, .slice none 0 0, .slice none 0 0, .slice none 0 0] 32)).alloc (.cells #[.slice none 0 0, .string ⟨#[]⟩, .slice none 0 0, .slice none 0 0, .slice none 0 0] 32)
  have o1 := (BoxS.new (w.alloc (.cells #[.slice a1 xs.length c1, .string came, .slice a2 ts.length c2, .slice a3 rs.length c3, .slice a4 ss.length c4] 26)) (.slice none 0 0) (.string ⟨#[]⟩) (.slice none 0 0) (.slice none 0 0) (.slice none 0 0) 32).alloc (.cells #[.slice none 0 0, .string ⟨#[]⟩, .slice none 0 0, .slice none 0 0, .slice none 0 0] 32)
  have p1 := BoxS.new ((w.alloc (.cells #[.slice a1 xs.length c1, .string came, .slice a2 ts.length c2, .slice a3 rs.length c3, .slice a4 ss.length c4] 26)).alloc (.cells #[.slice none 0 0, .string ⟨#[]⟩, .slice none 0 0, .slice none 0 0, .slice none 0 0] 32)) (.slice none 0 0) (.string ⟨#[]⟩) (.slice none 0 0) (.slice none 0 0) (.slice none 0 0) 32
  have HB1 := hidI b1
  have HO1 := hidI o1
  have HP1 := hidI p1
  clear b0 b1 o1 p1
  go_enter Try.func6, Try.ntmps6
  go_wp2_with fail
  have n1 := HB1.out.lt
  refine (Q.f19a xs _ _ _ (HA.out.below (c0 _ _ _)).x HN.out.x).mono ?_
  rintro e w1 ⟨rfl, hr1, hs1, hb1⟩
  have B1 := HB1.out.below hb1 (by simp; omega)
  have O1 := HO1.out.below hb1 (by simp)
  have P1 := HP1.out.below hb1 (by simp)
  have C1 : Below w.heap.size w w1 := (c0 _ _ _).trans (hb1.mono (by simp; omega))
  have z1 := hb1.size
  simp only [World.size_alloc] at hr1 hs1 O1 P1 z1
  clear HB1 HO1 HP1 hb1 n1
  have HO := hidI O1
  have HP := hidI P1
  have HB := hidI B1
  have HR1 := hidI hr1
  clear O1 hr1
  obtain ⟨x0, x1, x2, x3, x4, xl, xf⟩ := B1
  obtain ⟨y0, y1, y2, y3, y4, yl, yf⟩ := P1
  go_wp2_with fail
  obtain ⟨V1, hV1⟩ : ∃ V : World, V = ((w1.setCell ⟨w.heap.size + 1 + 1, 0, none⟩ (.slice (some ⟨w.heap.size + 1 + 1 + 1, 0, none⟩) xs.length xs.length)).setCell ⟨w.heap.size + 1 + 1, 1, none⟩ (.string came)) := ⟨_, rfl⟩
  have CV1 := ((C1.setCell (p := ⟨w.heap.size + 1 + 1, 0, none⟩) (by dsimp only; omega) (.slice (some ⟨w.heap.size + 1 + 1 + 1, 0, none⟩) xs.length xs.length)).setCell (p := ⟨w.heap.size + 1 + 1, 1, none⟩) (by dsimp only; omega) (.string came))
  have OV1 := ((HO.out.set ⟨w.heap.size + 1 + 1, 0, none⟩ (.slice (some ⟨w.heap.size + 1 + 1 + 1, 0, none⟩) xs.length xs.length) (by dsimp only; omega)).set ⟨w.heap.size + 1 + 1, 1, none⟩ (.string came) (by dsimp only; omega))
  have PV1 := ((HP.out.st0 (.slice (some ⟨w.heap.size + 1 + 1 + 1, 0, none⟩) xs.length xs.length)).st1 (.string came))
  have BV1 := ((HB.out.set ⟨w.heap.size + 1 + 1, 0, none⟩ (.slice (some ⟨w.heap.size + 1 + 1 + 1, 0, none⟩) xs.length xs.length) (by dsimp only; omega)).set ⟨w.heap.size + 1 + 1, 1, none⟩ (.string came) (by dsimp only; omega))
  have R1 := (InsRow.setq (InsRow.setq HR1.out ⟨w.heap.size + 1 + 1, 0, none⟩ (.slice (some ⟨w.heap.size + 1 + 1 + 1, 0, none⟩) xs.length xs.length) (by dsimp only; omega)) ⟨w.heap.size + 1 + 1, 1, none⟩ (.string came) (by dsimp only; omega))
  rw [← hV1] at CV1 OV1 PV1 BV1 R1
  have zV1 : V1.heap.size = w1.heap.size := by rw [hV1]; simp
  rw [← hV1]
  clear hV1 HO HP HB
  clear HR1 x0 x1 x2 x3 x4 xl xf y0 y1 y2 y3 y4 yl yf
  refine (toTS ts _ _ _ (HA.out.below CV1).t HN.out.t HN.out.tt).mono ?_
  rintro e w2 ⟨rfl, hr2, hs2, hb2⟩
  have z2 := hb2.size
  have C2 : Below w.heap.size w w2 := CV1.trans (hb2.mono (by omega))
  have O2 := OV1.below hb2 (by omega)
  have P2 := PV1.below hb2 (by omega)
  have B2 := BV1.below hb2 (by omega)
  have R2 := R1.below hb2 (by omega)
  have HR := hidI R2
  have HT := hidI hr2
  clear R1 R2 hr2 hb2
  have HO := hidI O2
  have HP := hidI P2
  have HB := hidI B2
  clear O2 OV1 PV1 BV1
  obtain ⟨x0, x1, x2, x3, x4, xl, xf⟩ := B2
  obtain ⟨y0, y1, y2, y3, y4, yl, yf⟩ := P2
  obtain ⟨g2, hg2⟩ : ∃ g, g = V1.heap.size := ⟨_, rfl⟩
  rw [← hg2] at hs2 HT ⊢
  have lg2 : g2 = w1.heap.size := hg2.trans zV1
  have HG2 := hidI lg2
  have LG2 : w1.heap.size ≤ g2 := by omega
  clear lg2 hg2 zV1
  go_wp2_with fail
  obtain ⟨V2, hV2⟩ : ∃ V : World, V = (w2.setCell ⟨w.heap.size + 1 + 1, 2, none⟩ (.slice (some ⟨g2, 0, none⟩) ts.length ts.length)) := ⟨_, rfl⟩
  have CV2 := (C2.setCell (p := ⟨w.heap.size + 1 + 1, 2, none⟩) (by dsimp only; omega) (.slice (some ⟨g2, 0, none⟩) ts.length ts.length))
  have OV2 := (HO.out.set ⟨w.heap.size + 1 + 1, 2, none⟩ (.slice (some ⟨g2, 0, none⟩) ts.length ts.length) (by dsimp only; omega))
  have PV2 := (HP.out.st2 (.slice (some ⟨g2, 0, none⟩) ts.length ts.length))
  have BV2 := (HB.out.set ⟨w.heap.size + 1 + 1, 2, none⟩ (.slice (some ⟨g2, 0, none⟩) ts.length ts.length) (by dsimp only; omega))
  have R2 := (InsRow.setq HR.out ⟨w.heap.size + 1 + 1, 2, none⟩ (.slice (some ⟨g2, 0, none⟩) ts.length ts.length) (by dsimp only; omega))
  have T2 := (RowO.set HT.out ⟨w.heap.size + 1 + 1, 2, none⟩ (.slice (some ⟨g2, 0, none⟩) ts.length ts.length) (by dsimp only; omega))
  rw [← hV2] at CV2 OV2 PV2 BV2 R2 T2
  have zV2 : V2.heap.size = w2.heap.size := by rw [hV2]; simp
  rw [← hV2]
  clear hV2 HO HP HB
  clear HR HT x0 x1 x2 x3 x4 xl xf y0 y1 y2 y3 y4 yl yf
  refine (f29 rs _ _ _ (HA.out.below CV2).r HN.out.r).mono ?_
  rintro e w3 ⟨rfl, hr3, hs3, hb3⟩
  have z3 := hb3.size
  have C3 : Below w.heap.size w w3 := CV2.trans (hb3.mono (by omega))
  have O3 := OV2.below hb3 (by omega)
  have P3 := PV2.below hb3 (by omega)
  have B3 := BV2.below hb3 (by omega)
  have R3 := R2.below hb3 (by omega)
  have HR := hidI R3
  have T3 := T2.below hb3 (by omega)
  have HT := hidI T3
  have HI := hidI hr3
  clear R2 R3 T2 T3 hr3 hb3
  have HO := hidI O3
  have HP := hidI P3
  have HB := hidI B3
  clear O3 OV2 PV2 BV2
  obtain ⟨x0, x1, x2, x3, x4, xl, xf⟩ := B3
  obtain ⟨y0, y1, y2, y3, y4, yl, yf⟩ := P3
  obtain ⟨g3, hg3⟩ : ∃ g, g = V2.heap.size := ⟨_, rfl⟩
  rw [← hg3] at hs3 HI ⊢
  have lg3 : g3 = w2.heap.size := hg3.trans zV2
  have HG3 := hidI lg3
  have LG3 : w2.heap.size ≤ g3 := by omega
  clear lg3 hg3 zV2
  go_wp2_with fail
  obtain ⟨V3, hV3⟩ : ∃ V : World, V = (w3.setCell ⟨w.heap.size + 1 + 1, 3, none⟩ (.slice (some ⟨g3, 0, none⟩) rs.length rs.length)) := ⟨_, rfl⟩
  have CV3 := (C3.setCell (p := ⟨w.heap.size + 1 + 1, 3, none⟩) (by dsimp only; omega) (.slice (some ⟨g3, 0, none⟩) rs.length rs.length))
  have OV3 := (HO.out.set ⟨w.heap.size + 1 + 1, 3, none⟩ (.slice (some ⟨g3, 0, none⟩) rs.length rs.length) (by dsimp only; omega))
  have PV3 := (HP.out.st3 (.slice (some ⟨g3, 0, none⟩) rs.length rs.length))
  have BV3 := (HB.out.set ⟨w.heap.size + 1 + 1, 3, none⟩ (.slice (some ⟨g3, 0, none⟩) rs.length rs.length) (by dsimp only; omega))
  have R3 := (InsRow.setq HR.out ⟨w.heap.size + 1 + 1, 3, none⟩ (.slice (some ⟨g3, 0, none⟩) rs.length rs.length) (by dsimp only; omega))
  have T3 := (RowO.set HT.out ⟨w.heap.size + 1 + 1, 3, none⟩ (.slice (some ⟨g3, 0, none⟩) rs.length rs.length) (by dsimp only; omega))
  have I3 := (IntRow.set HI.out ⟨w.heap.size + 1 + 1, 3, none⟩ (.slice (some ⟨g3, 0, none⟩) rs.length rs.length) (by dsimp only; omega))
  rw [← hV3] at CV3 OV3 PV3 BV3 R3 T3 I3
  have zV3 : V3.heap.size = w3.heap.size := by rw [hV3]; simp
  rw [← hV3]
  clear hV3 HO HP HB
  clear HR HT HI x0 x1 x2 x3 x4 xl xf y0 y1 y2 y3 y4 yl yf
  refine (f29 ss _ _ _ (HA.out.below CV3).s HN.out.s).mono ?_
  rintro e w4 ⟨rfl, hr4, hs4, hb4⟩
  have z4 := hb4.size
  have C4 : Below w.heap.size w w4 := CV3.trans (hb4.mono (by omega))
  have O4 := OV3.below hb4 (by omega)
  have P4 := PV3.below hb4 (by omega)
  have B4 := BV3.below hb4 (by omega)
  have R4 := R3.below hb4 (by omega)
  have HR := hidI R4
  have T4 := T3.below hb4 (by omega)
  have HT := hidI T4
  have I4 := I3.below hb4 (by omega)
  have HI := hidI I4
  have HJ := hidI hr4
  clear R3 R4 T3 T4 I3 I4 hr4 hb4
  have HO := hidI O4
  have HP := hidI P4
  have HB := hidI B4
  clear O4 OV3 PV3 BV3
  obtain ⟨x0, x1, x2, x3, x4, xl, xf⟩ := B4
  obtain ⟨y0, y1, y2, y3, y4, yl, yf⟩ := P4
  obtain ⟨g4, hg4⟩ : ∃ g, g = V3.heap.size := ⟨_, rfl⟩
  rw [← hg4] at hs4 HJ ⊢
  have lg4 : g4 = w3.heap.size := hg4.trans zV3
  have HG4 := hidI lg4
  have LG4 : w3.heap.size ≤ g4 := by omega
  clear lg4 hg4 zV3
  have HO4 := HO.out
  obtain ⟨u0, u1, u2, u3, u4, ul, uf⟩ := HO4
  go_wp2_with fail
  have HG1 : w.heap.size + 1 + 1 + 1 < w4.heap.size := by omega
  have base : StO w4 (w.heap.size + 1 + 1 + 1) g2 g3 g4 xs ts rs ss := ⟨HR.out, HT.out, HI.out, HJ.out, by omega, by omega, by omega, hs4⟩
  have HBA := hidI base
  clear base
  refine bodyPost_ret (v := .agg #[.slice (some ⟨w.heap.size + 1 + 1 + 1, 0, none⟩) xs.length xs.length, .string came, .slice (some ⟨g2, 0, none⟩) ts.length ts.length, .slice (some ⟨g3, 0, none⟩) rs.length rs.length, .slice (some ⟨g4, 0, none⟩) ss.length ss.length]) (by simp [results, Try.results6, go_sem, u0, u1, u2, u3, u4]) rfl ⟨_, g2, g3, g4, rfl, ?_, by omega, by omega, by omega, by omega, ?_⟩
  · exact (StO.set (StO.set (StO.set (StO.set (StO.set (StO.set HBA.out _ _ (by dsimp only; omega) (by dsimp only; omega) (by dsimp only; omega) (by dsimp only; omega)) _ _ (by dsimp only; omega) (by dsimp only; omega) (by dsimp only; omega) (by dsimp only; omega)) _ _ (by dsimp only; omega) (by dsimp only; omega) (by dsimp only; omega) (by dsimp only; omega)) _ _ (by dsimp only; omega) (by dsimp only; omega) (by dsimp only; omega) (by dsimp only; omega)) _ _ (by dsimp only; omega) (by dsimp only; omega) (by dsimp only; omega) (by dsimp only; omega)) _ _ (by dsimp only; omega) (by dsimp only; omega) (by dsimp only; omega) (by dsimp only; omega))
  · exact ((((((C4.setCell (by dsimp only; omega) _).setCell (by dsimp only; omega) _).setCell (by dsimp only; omega) _).setCell (by dsimp only; omega) _).setCell (by dsimp only; omega) _).setCell (by dsimp only; omega) _)

end Go.Proofs.Ytghcknbpipaghaa
