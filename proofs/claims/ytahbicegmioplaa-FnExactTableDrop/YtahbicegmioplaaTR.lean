/- TableNext: of the program. -/
import Derived.RangeFuncNested
import Derived.RangeFuncBound
import Derived.RangeFuncCalls
import Derived.RangeFuncLeaves
import Derived.RangeFuncBox
import Derived.Shelf.Abstract
import Derived.WalkKit
import Derived.OwnWalkIn
import Derived.TacticsInMore
import Derived.LoopNIn
import Derived.LoopIn
import Derived.Test.YtahbicegmioplaaTQ
import Derived.Test.YtahbicegmioplaaTJ
namespace Go.Proofs.Ytahbicegmioplaa
open Go.RowKit Go.Shelf
set_option linter.unusedSimpArgs false
set_option linter.unusedVariables false
attribute [local go_sem] Oper.semAt_some

def stepI (key : Int) (st : Int × Bool) (x : Pr) : Int × Bool := if key < x.1 ∧ (st.2 = false ∨ x.1 < st.1) then (x.1, true) else st
def nextI (ps : List Pr) (key : Int) : Int × Bool := ps.foldl (stepI key) (-1, false)
theorem nextI_snoc (ps : List Pr) (x : Pr) (key : Int) : nextI (ps ++ [x]) key = stepI key (nextI ps key) x := by simp [nextI]
theorem fold_same (key : Int) : ∀ (ps : List Pr) (m : Int), (∀ x ∈ ps, 0 ≤ x.1) → ps.foldl (stepI key) (m, decide (0 ≤ m)) = ((ps.map Prod.fst).foldl (stepN key) m, decide (0 ≤ (ps.map Prod.fst).foldl (stepN key) m))
  | [], m, _ => rfl
  | x :: ps, m, h => by
    have hx := h x (by simp)
    have e : stepI key (m, decide (0 ≤ m)) x = (stepN key m x.1, decide (0 ≤ stepN key m x.1)) := by
      unfold stepI stepN
      by_cases h1 : key < x.1 ∧ (m < 0 ∨ x.1 < m)
      · rw [if_pos h1, if_pos ⟨h1.1, by simp; omega⟩]; simp [hx]
      · rw [if_neg h1, if_neg (by simp; omega)]
    rw [List.foldl_cons, e, fold_same key ps _ (fun y hy => h y (by simp [hy]))]
    rfl
theorem next_same {k s r : Int} {ks : List Int} {vs : List ByteArray} (key : Int) (hok : okB k s r ks vs = true) : nextI (ks.zip vs) key = nextT k s r ks vs key := by
  have h := okB_true.1 hok
  have hl := (shape2_len h.shape).1
  have hp : ∀ x ∈ ks.zip vs, 0 ≤ x.1 := by
    intro x hx
    obtain ⟨j, hj, e⟩ := List.getElem_of_mem (List.of_mem_zip hx).1
    have := h.good.num j hj hj
    rw [e] at this
    simp [inB] at this
    omega
  unfold nextT
  rw [if_pos hok]
  have := fold_same key (ks.zip vs) (-1) hp
  rw [List.map_fst_zip (by omega)] at this
  exact this
theorem own_argW {w : World} {base : Nat} {v : Value} {ps : List Pr} (h : w.ownsRow base 82 2 v ps.length (flatP ps)) : ∃ a cap, v = .slice a ps.length cap ∧ ArgW base w.heap.size w a ps := by
  rcases own_rowP h with ⟨rfl, rfl⟩ | ⟨g, cap, rfl, hb, hg, hr⟩
  · exact ⟨none, 0, rfl, .inl rfl⟩
  · exact ⟨_, cap, rfl, .inr ⟨g, 0, rfl, hb, hg, hr⟩⟩

set_option maxRecDepth 100000 in
set_option maxHeartbeats 4000000 in
theorem next_in (k s r : Int) (ks : List Int) (vs : List ByteArray) (a b : Option Addr) (c d : Nat) (key : Int) (w : World) (hA : ArgI w a ks) (hB : ArgS w b vs) (hc : ks.length ≤ c) (hkm : ks.length ≤ 1048576) (hvm : vs.length ≤ 1048576) :
    CallsIn Fence.wide 3 Try.prog 24 #[.agg #[.int .i64 k, .int .i64 s, .int .i64 r, .slice a ks.length c, .slice b vs.length d], .int .i64 key] w fun e w' => e = .returned (.tuple #[.int .i64 (nextT k s r ks vs key).1, .bool (nextT k s r ks vs key).2]) ∧ Below w.heap.size w w' := by
  have HA : Hid _ := hA
  have HB : Hid _ := hB
  clear hA hB
  have h4 : ∀ X Y Z U, Below w.heap.size w ((((w.alloc X).alloc Y).alloc Z).alloc U) := fun X Y Z U => ((((Below.refl _ w).alloc (Nat.le_refl _) _).alloc (by simp) _).alloc (by simp; omega) _).alloc (by simp; omega) _
  have hro : Fence.wide.round = none := rfl
  have hf25 : Try.prog.funcs[24]? = some Try.f24 := Try.func24
  refine callsIn_of_wp_marks Try.func24 rfl trivial ?_ hro
  simp only [Try.ntmps24, List.size_toArray, List.length_cons, List.length_nil, Nat.reduceAdd, Nat.reduceSub, Array.replicate_succ, Array.replicate_zero, List.push_toArray, List.append_toArray, List.nil_append, List.cons_append]
  clear hf25
  have bK := Boxed.new (w.alloc (.cells #[.int .i64 k, .int .i64 s, .int .i64 r, .slice a ks.length c, .slice b vs.length d] 28)) 3 (.int .i64 key)
  have bL := Boxed.new ((w.alloc (.cells #[.int .i64 k, .int .i64 s, .int .i64 r, .slice a ks.length c, .slice b vs.length d] 28)).alloc (.cells #[.int .i64 key] 3)) 3 (.int .i64 (-1))
  have bF := Boxed.new (((w.alloc (.cells #[.int .i64 k, .int .i64 s, .int .i64 r, .slice a ks.length c, .slice b vs.length d] 28)).alloc (.cells #[.int .i64 key] 3)).alloc (.cells #[.int .i64 (-1)] 3)) 4 (.bool false)
  simp only [World.size_alloc] at bK bL bF
  have kK := (bK.alloc (.cells #[.int .i64 (-1)] 3)).alloc (.cells #[.bool false] 4)
  have kL := bL.alloc (.cells #[.bool false] 4)
  have HK : Hid _ := kK
  have HL : Hid _ := kL
  have HF : Hid _ := bF
  clear bK bL bF kK kL
  cases hok : okB k s r ks vs
  · gi_wp2_with fail
    refine ⟨trivial, ((callsIn_wide (n := 2)).2 (f12b k s r ks vs a b c d _ (ArgI.below HA.out (h4 _ _ _ _) (Nat.le_refl _)) (ArgS.below HB.out (h4 _ _ _ _) (Nat.le_refl _)) hc hkm hvm)).mono ?_⟩
    rw [hok]
    rintro e wa ⟨rfl, hba⟩
    have ca : Below w.heap.size w wa := (h4 _ _ _ _).trans (hba.mono (by simp; omega))
    have l0 : wa.cell? ⟨w.heap.size + 1 + 1, 0, none⟩ = some (.int .i64 (-1)) := by rw [hba.cell (by simp)]; exact Boxed.cell HL.out
    have f0 : wa.cell? ⟨w.heap.size + 1 + 1 + 1, 0, none⟩ = some (.bool false) := by rw [hba.cell (by simp)]; exact Boxed.cell HF.out
    gi_wp2_with fail
    gi_region
    gi_wp2_with fail
    exact ⟨.tuple #[.int .i64 (-1), .bool false], by simp [results, Try.f24, go_sem], ret_twoI (x := (-1, false)) (by unfold nextT; rw [hok]; rfl), ca.drew⟩
  · have hsh := shape2_len (okB_true.1 hok).shape
    have HSH : Hid _ := hsh
    have hk8 : ks.length ≤ 8 := by omega
    clear hsh
    gi_wp2_with fail
    refine ⟨trivial, ((callsIn_wide (n := 2)).2 (f12b k s r ks vs a b c d _ (ArgI.below HA.out (h4 _ _ _ _) (Nat.le_refl _)) (ArgS.below HB.out (h4 _ _ _ _) (Nat.le_refl _)) hc hkm hvm)).mono ?_⟩
    rw [hok]
    rintro e wa ⟨rfl, hba⟩
    obtain ⟨hca, hfa⟩ := bcell hba
    have ca : Below w.heap.size w wa := (h4 _ _ _ _).trans (hba.mono (by simp; omega))
    have za := hba.size
    simp only [World.size_alloc] at za hca hfa
    gi_wp2_with fail
    refine ⟨trivial, ((callsIn_wide (n := 2)).2 (f46 k s r ks vs a b c d _ (ArgI.below HA.out ca (Nat.le_refl _)) (ArgS.below HB.out ca (Nat.le_refl _)) HSH.out.1 hk8)).mono ?_⟩
    rintro e wb ⟨v, rfl, hown, hbb⟩
    have hpl : (ks.zip vs).length ≤ 1048576 := by simp; omega
    obtain ⟨ps, hps⟩ : ∃ ps, ps = ks.zip vs := ⟨_, rfl⟩
    rw [← hps] at hown hpl
    have HPS : Hid _ := hps
    clear hps
    obtain ⟨a2, cap2, rfl, hP⟩ := own_argW hown
    have HP : Hid _ := hP
    have HPL : Hid _ := hpl
    clear hP hown hpl
    have cb : Below w.heap.size w wb := ca.trans (hbb.mono (by omega))
    have zb := hbb.size
    obtain ⟨hcb, hfb⟩ := bcell hbb
    gi_wp2_with fail
    refine ⟨trivial, (all_in Fence.wide 2 trivial hro _ _ _ _).mono ?_⟩
    rintro e w' ⟨rfl, rfl⟩
    gi_wp2_with fail
    have l0 : wb.cell? ⟨w.heap.size + 1 + 1, 0, none⟩ = some (.int .i64 (-1)) := by rw [hcb _ _ (by omega), hca _ _ (by omega)]; exact Boxed.cell HL.out
    have l1 : wb.frozen? ⟨w.heap.size + 1 + 1, 0, none⟩ = false := by rw [hfb _ _ (by omega), hfa _ _ (by omega)]; exact Boxed.frozen HL.out
    have g0 : wb.cell? ⟨w.heap.size + 1 + 1 + 1, 0, none⟩ = some (.bool false) := by rw [hcb _ _ (by omega), hca _ _ (by omega)]; exact Boxed.cell HF.out
    have g1 : wb.frozen? ⟨w.heap.size + 1 + 1 + 1, 0, none⟩ = false := by rw [hfb _ _ (by omega), hfa _ _ (by omega)]; exact Boxed.frozen HF.out
    have k0 : wb.cell? ⟨w.heap.size + 1, 0, none⟩ = some (.int .i64 key) := by rw [hcb _ _ (by omega), hca _ _ (by omega)]; exact Boxed.cell HK.out
    clear hca hfa hcb hfb
    have hq : Below wb.heap.size wb (wb.alloc (.cells #[.slice a2 ps.length cap2] 55)) := (Below.refl _ _).alloc (Nat.le_refl _) _
    have hB0 : Below w.heap.size w (wb.alloc (.cells #[.slice a2 ps.length cap2] 55)) := cb.trans (hq.mono (by omega))
    have bN := Boxed.new wb 55 (.slice a2 ps.length cap2)
    refine wpIn_rangeFunc_ownG (n := 3) hro (show 1 ≤ 3 by omega) (gf := 76) (lb := #[.pointer (some ⟨wb.heap.size, 0, none⟩)]) rfl trivial (enters_of Try.func76 (by kernel_rfl) rfl)
      (all_stopsW Fence.wide 2 trivial hro (by omega) wb.heap.size wa.heap.size wb.heap.size a2 cap2 ps HPL.out _ (by simp) (by simp) bN.cell (ArgW.below HP.out (Win.of hq (Nat.le_refl _)))) (fun h k => h.trans k) (winK_b (lo := wa.heap.size) (hi := wb.heap.size) (by simp)) (Below.refl _ _) (fun _ => rfl)
      (fun pre W => (W.cell? ⟨w.heap.size + 1, 0, none⟩ = some (.int .i64 key) ∧ (W.cell? ⟨w.heap.size + 1 + 1, 0, none⟩ = some (.int .i64 (nextI pre key).1) ∧ W.frozen? ⟨w.heap.size + 1 + 1, 0, none⟩ = false) ∧ (W.cell? ⟨w.heap.size + 1 + 1 + 1, 0, none⟩ = some (.bool (nextI pre key).2) ∧ W.frozen? ⟨w.heap.size + 1 + 1 + 1, 0, none⟩ = false)) ∧ Below w.heap.size w W)
      (fun _ _ _ => False)
      (OwnFrom.and (Own.from (fun s A B row hs hg hr => ⟨cell_kept hs.1 hg hr, ⟨cell_kept hs.2.1.1 hg hr, (frozen_kept hs.2.1.1 hg hr).trans hs.2.1.2⟩, ⟨cell_kept hs.2.2.1 hg hr, (frozen_kept hs.2.2.1 hg hr).trans hs.2.2.2⟩⟩) _) (ownFrom_below (Nat.le_refl _) (by simp; omega)))
      (fun c s A B row hs hg hr => hs)
      ⟨⟨by rw [hq.cell (by simp; omega)]; exact k0, ⟨by rw [hq.cell (by simp; omega)]; exact l0, by rw [hq.frozen (by simp; omega)]; exact l1⟩, ⟨by rw [hq.cell (by simp; omega)]; exact g0, by rw [hq.frozen (by simp; omega)]; exact g1⟩⟩, hB0⟩
      (fun x => { tmps := #[.agg #[.int .i64 k, .int .i64 s, .int .i64 r, .slice a ks.length c, .slice b vs.length d], .int .i64 key, .pointer (some ⟨w.heap.size, 0, none⟩), .pointer (some ⟨w.heap.size + 1, 0, none⟩), .int .i64 0, .bool false, .pointer (some ⟨w.heap.size + 1 + 1, 0, none⟩), .pointer (some ⟨w.heap.size + 1 + 1 + 1, 0, none⟩), .int .i64 x.1, .agg #[.int .i64 k, .int .i64 s, .int .i64 r, .slice a ks.length c, .slice b vs.length d], .bool true, .bool false, undef, undef, .agg #[.int .i64 k, .int .i64 s, .int .i64 r, .slice a ks.length c, .slice b vs.length d], .slice a2 ps.length cap2, .func (.func 76) #[] #[.pointer (some ⟨wb.heap.size, 0, none⟩)], .int .i64 x.1, .string x.2, undef, undef, undef, undef, undef, undef, undef, undef, undef, undef, undef, undef, undef, undef, undef], defers := [] }) ?assign ?body ?done ?stop
    case assign =>
      intro l x W K hK
      gi_wp2
      exact hK
    case body =>
      rintro l pre x W ⟨⟨hck, ⟨hcs, hfs⟩, ⟨hct, hft⟩⟩, hB⟩ _
      have hsn := nextI_snoc pre x key
      obtain ⟨⟨m, f⟩, hm⟩ : ∃ q, q = nextI pre key := ⟨_, rfl⟩
      rw [← hm] at hsn hcs hct
      have HSN : Hid _ := hsn
      clear hm hsn
      simp only at hcs hct
      have hP : (key < x.1 ∧ (f = false ∨ f = true ∧ x.1 < m)) ∨ (x.1 ≤ key) ∨ (key < x.1 ∧ f = true ∧ m ≤ x.1) := by cases f <;> simp <;> omega
      have hput : ∀ (B : Nat) (A : Act), (nextI (pre ++ [x]) key = (x.1, true)) → ownPostG B (Win wa.heap.size wb.heap.size) (fun pre W => (W.cell? ⟨w.heap.size + 1, 0, none⟩ = some (.int .i64 key) ∧ (W.cell? ⟨w.heap.size + 1 + 1, 0, none⟩ = some (.int .i64 (nextI pre key).1) ∧ W.frozen? ⟨w.heap.size + 1 + 1, 0, none⟩ = false) ∧ (W.cell? ⟨w.heap.size + 1 + 1 + 1, 0, none⟩ = some (.bool (nextI pre key).2) ∧ W.frozen? ⟨w.heap.size + 1 + 1 + 1, 0, none⟩ = false)) ∧ Below w.heap.size w W) (fun _ _ _ => False) (pre ++ [x]) W .normal A ((W.setCell ⟨w.heap.size + 1 + 1, 0, none⟩ (.int .i64 x.1)).setCell ⟨w.heap.size + 1 + 1 + 1, 0, none⟩ (.bool true)) := by
        intro B A e
        have k1 : (W.setCell ⟨w.heap.size + 1 + 1, 0, none⟩ (.int .i64 x.1)).cell? ⟨w.heap.size + 1 + 1, 0, none⟩ = some (.int .i64 x.1) := World.cell?_setCell_same' _ _ _ (by rw [hcs]; rfl)
        have k2 : (W.setCell ⟨w.heap.size + 1 + 1, 0, none⟩ (.int .i64 x.1)).cell? ⟨w.heap.size + 1 + 1 + 1, 0, none⟩ = some (.bool f) := by rw [World.cell?_setCell_other _ _ _ _ (by simp)]; exact hct
        refine ⟨((KeepsOthers.setCell _ _ _).trans (KeepsOthers.setCell _ _ _)).from _, ((Win.refl _ _ _).setCell (by simp; omega) _).setCell (by simp; omega) _, ⟨?_, ⟨?_, by simpa using hfs⟩, ⟨?_, by simpa using hft⟩⟩, (hB.setCell (p := ⟨w.heap.size + 1 + 1, 0, none⟩) (by simp; omega) _).setCell (p := ⟨w.heap.size + 1 + 1 + 1, 0, none⟩) (by simp; omega) _⟩
        · rw [World.cell?_setCell_other _ _ _ _ (by simp), World.cell?_setCell_other _ _ _ _ (by simp)]; exact hck
        · rw [e, World.cell?_setCell_other _ _ _ _ (by simp)]; exact k1
        · rw [e]; exact World.cell?_setCell_same' _ _ _ (by rw [k2]; rfl)
      have hstay : ∀ (B : Nat) (A : Act), (nextI (pre ++ [x]) key = (m, f)) → ownPostG B (Win wa.heap.size wb.heap.size) (fun pre W => (W.cell? ⟨w.heap.size + 1, 0, none⟩ = some (.int .i64 key) ∧ (W.cell? ⟨w.heap.size + 1 + 1, 0, none⟩ = some (.int .i64 (nextI pre key).1) ∧ W.frozen? ⟨w.heap.size + 1 + 1, 0, none⟩ = false) ∧ (W.cell? ⟨w.heap.size + 1 + 1 + 1, 0, none⟩ = some (.bool (nextI pre key).2) ∧ W.frozen? ⟨w.heap.size + 1 + 1 + 1, 0, none⟩ = false)) ∧ Below w.heap.size w W) (fun _ _ _ => False) (pre ++ [x]) W .normal A W := by
        intro B A e
        exact ⟨KeepsFrom.refl _ _, Win.refl _ _ _, ⟨hck, ⟨by rw [e]; exact hcs, hfs⟩, ⟨by rw [e]; exact hct, hft⟩⟩, hB⟩
      have HPUT : Hid _ := hput
      have HST : Hid _ := hstay
      clear hput hstay
      rcases hP with ⟨h1, rfl | ⟨rfl, h3⟩⟩ | h1 | ⟨h1, rfl, h3⟩
      · gi_wp2_with fail
        exact HPUT.out _ _ (by rw [HSN.out]; unfold stepI; rw [if_pos (by simp; omega)])
      · gi_wp2_with fail
        exact HPUT.out _ _ (by rw [HSN.out]; unfold stepI; rw [if_pos (by simp; omega)])
      · gi_wp2_with fail
        exact HST.out _ _ (by rw [HSN.out]; unfold stepI; rw [if_neg (by simp; omega)])
      · gi_wp2_with fail
        exact HST.out _ _ (by rw [HSN.out]; unfold stepI; rw [if_neg (by simp; omega)])
    case done =>
      rintro D ys W hD rfl ⟨⟨hck, ⟨hcs, hfs⟩, ⟨hct, hft⟩⟩, hB⟩ hK
      gi_wp2_with fail
      gi_region
      gi_wp2_with fail
      have hK' : W.drew.heap[D]? = some (.deferred (some [])) := hK
      refine ⟨by simp, .inl ⟨_, _, rfl, run_takeDeferred hK', ?_⟩⟩
      refine ⟨.tuple #[.int .i64 (nextI ys key).1, .bool (nextI ys key).2], by simp [results, Try.f24, go_sem], ret_twoI (by rw [HPS.out]; exact next_same key hok), hB.drew.trans (belowK_b (w := w) (Nat.le_refl _) _ D _ _ (by simp at hD; omega) hK' rfl rfl)⟩
    case stop =>
      rintro D c pre W hD ⟨k, hk, rfl⟩ h hK
      exact h.elim

theorem f25 (k s r : Int) (ks : List Int) (vs : List ByteArray) (a b : Option Addr) (c d : Nat) (key : Int) (w : World) (hA : ArgI w a ks) (hB : ArgS w b vs) (hc : ks.length ≤ c) (hkm : ks.length ≤ 1048576) (hvm : vs.length ≤ 1048576) :
    Calls Try.prog 24 #[.agg #[.int .i64 k, .int .i64 s, .int .i64 r, .slice a ks.length c, .slice b vs.length d], .int .i64 key] w fun e w' => e = .returned (.tuple #[.int .i64 (nextT k s r ks vs key).1, .bool (nextT k s r ks vs key).2]) ∧ Below w.heap.size w w' :=
  (callsIn_wide (n := 3)).1 (next_in k s r ks vs a b c d key w hA hB hc hkm hvm)

end Go.Proofs.Ytahbicegmioplaa
