/- The look-up in a list of pairs. -/
import Derived.RangeFuncNested
import Derived.RangeFuncBound
import Derived.RangeFuncCalls
import Derived.RangeFuncLeaves
import Derived.RangeFuncBox
import Derived.Shelf.Abstract
import Derived.WalkKit
import Derived.OwnWalkIn
import Derived.TacticsInMore
import Derived.LoopNIn
import Derived.LoopIn
import Derived.Test.YtahbicegmioplaaTI
namespace Go.Proofs.Ytahbicegmioplaa
open Go.RowKit Go.Shelf
set_option linter.unusedSimpArgs false
attribute [local go_sem] Oper.semAt_some

def lookP (ps : List Pr) (key : Int) : ByteArray × Bool := match ps.find? (fun x => x.1 == key) with
  | some x => (x.2, true)
  | none => (⟨#[]⟩, false)
theorem lookP_none {ps : List Pr} {key : Int} (h : ∀ x ∈ ps, (x.1 == key) = false) : lookP ps key = (⟨#[]⟩, false) := by
  unfold lookP
  rw [List.find?_eq_none.2 (by intro x hx; simp [h x hx])]
theorem lookP_take {ps : List Pr} {key : Int} {k : Nat} {ini : List Pr} {last : Pr} (h : ps.take k = ini ++ [last]) (hn : ∀ x ∈ ini, (x.1 == key) = false) (hl : (last.1 == key) = true) : lookP ps key = (last.2, true) := by
  have e : ps = ini ++ [last] ++ ps.drop k := by rw [← h]; exact (List.take_append_drop k ps).symm
  unfold lookP
  rw [e, List.find?_append, List.find?_append, List.find?_eq_none.2 (by intro x hx; simp [hn x hx])]
  simp [hl]

set_option maxRecDepth 100000 in
set_option maxHeartbeats 2000000 in
theorem look_in (F : Fence) (n : Nat) (h47 : F.fn 43) (h54 : F.fn 59) (h60 : F.fn 76) (hro : F.round = none) (hn : 3 ≤ n) (a : Option Addr) (cap : Nat) (ps : List Pr) (key : Int) (hlen : ps.length ≤ 1048576) (w : World) (hI : ArgP w.heap.size w a ps) :
    CallsIn F n Try.prog 43 #[.slice a ps.length cap, .int .i64 key] w fun e W' => e = .returned (.tuple #[.string (lookP ps key).1, .bool (lookP ps key).2]) ∧ Below w.heap.size w W' := by
  have h1 : 1 ≤ n := by omega
  refine callsIn_of_wp_marks Try.func43 rfl h47 ?_ hro
  simp only [Try.ntmps43, List.size_toArray, List.length_cons, List.length_nil, Nat.reduceAdd, Nat.reduceSub, Array.replicate_succ, Array.replicate_zero, List.push_toArray, List.append_toArray, List.nil_append, List.cons_append]
  gi_wp2_with (gi_at_call 59; refine (all_in F (n - 1) h54 hro _ _ _ _).mono ?_; rintro e w' ⟨rfl, rfl⟩)
  have bK := Boxed.new w 3 (.int .i64 key)
  have bS := Boxed.new (w.alloc (.cells #[.int .i64 key] 3)) 9 (.string ⟨#[]⟩)
  have bT := Boxed.new ((w.alloc (.cells #[.int .i64 key] 3)).alloc (.cells #[.string ⟨#[]⟩] 9)) 4 (.bool false)
  have bN := Boxed.new (((w.alloc (.cells #[.int .i64 key] 3)).alloc (.cells #[.string ⟨#[]⟩] 9)).alloc (.cells #[.bool false] 4)) 55 (.slice a ps.length cap)
  simp only [World.size_alloc] at bS bT bN
  have hB0 : Below w.heap.size w ((((w.alloc (.cells #[.int .i64 key] 3)).alloc (.cells #[.string ⟨#[]⟩] 9)).alloc (.cells #[.bool false] 4)).alloc (.cells #[.slice a ps.length cap] 55)) := ((((Below.refl _ w).alloc (Nat.le_refl _) _).alloc (by simp) _).alloc (by simp; omega) _).alloc (by simp; omega) _
  have kS := ((bS.alloc (.cells #[.bool false] 4)).alloc (.cells #[.slice a ps.length cap] 55))
  have kT := (bT.alloc (.cells #[.slice a ps.length cap] 55))
  have kK := (((bK.alloc (.cells #[.string ⟨#[]⟩] 9)).alloc (.cells #[.bool false] 4)).alloc (.cells #[.slice a ps.length cap] 55))
  refine wpIn_rangeFunc_ownG hro h1 (gf := 76) (lb := #[.pointer (some ⟨w.heap.size + 1 + 1 + 1, 0, none⟩)]) rfl h60 (enters_of Try.func76 (by kernel_rfl) rfl)
    (all_stops F (n - 1) h60 hro (by omega) (w.heap.size + 1 + 1 + 1) w.heap.size a cap ps hlen _ (by simp) (by simp; omega) bN.cell (hI.below hB0)) belowK_t (belowK_b (by simp; omega)) (Below.refl _ _) (fun _ => rfl)
    (fun pre W => ((∀ x ∈ pre, (x.1 == key) = false) ∧ W.cell? ⟨w.heap.size, 0, none⟩ = some (.int .i64 key) ∧ (W.cell? ⟨w.heap.size + 1, 0, none⟩ = some (.string ⟨#[]⟩) ∧ W.frozen? ⟨w.heap.size + 1, 0, none⟩ = false) ∧ (W.cell? ⟨w.heap.size + 1 + 1, 0, none⟩ = some (.bool false) ∧ W.frozen? ⟨w.heap.size + 1 + 1, 0, none⟩ = false)) ∧ Below w.heap.size w W)
    (fun c pre W => (c = .ret ∧ ∃ ini last, pre = ini ++ [last] ∧ (∀ x ∈ ini, (x.1 == key) = false) ∧ (last.1 == key) = true ∧ W.cell? ⟨w.heap.size + 1, 0, none⟩ = some (.string last.2) ∧ W.cell? ⟨w.heap.size + 1 + 1, 0, none⟩ = some (.bool true)) ∧ Below w.heap.size w W)
    (OwnFrom.and (Own.from (fun s A B row hs hg hr => ⟨hs.1, cell_kept hs.2.1 hg hr, ⟨cell_kept hs.2.2.1.1 hg hr, (frozen_kept hs.2.2.1.1 hg hr).trans hs.2.2.1.2⟩, ⟨cell_kept hs.2.2.2.1 hg hr, (frozen_kept hs.2.2.2.1 hg hr).trans hs.2.2.2.2⟩⟩) _) (ownFrom_below (Nat.le_refl _) (by simp; omega)))
    (fun c => OwnFrom.and (Own.from (fun s A B row hs hg hr => by obtain ⟨hc, ini, last, e1, e2, e3, e4, e5⟩ := hs; exact ⟨hc, ini, last, e1, e2, e3, cell_kept e4 hg hr, cell_kept e5 hg hr⟩) _) (ownFrom_below (Nat.le_refl _) (by simp; omega)))
    ⟨⟨by simp, kK.cell, ⟨kS.cell, kS.frozen⟩, ⟨kT.cell, kT.frozen⟩⟩, hB0⟩
    (fun x => { tmps := #[.slice a ps.length cap, .int .i64 key, undef, .pointer (some ⟨w.heap.size, 0, none⟩), .pointer (some ⟨w.heap.size + 1, 0, none⟩), .pointer (some ⟨w.heap.size + 1 + 1, 0, none⟩), .int .i64 x.1, .string x.2, undef, .slice a ps.length cap, .func (.func 76) #[] #[.pointer (some ⟨w.heap.size + 1 + 1 + 1, 0, none⟩)], .int .i64 x.1, .string x.2, undef, undef, undef, undef, undef], defers := [] }) ?assign ?body ?done ?stop
  case assign =>
    intro l x W K hK
    gi_wp2
    exact hK
  case body =>
    rintro l pre x W ⟨⟨hp, hck, ⟨hcs, hfs⟩, ⟨hct, hft⟩⟩, hB⟩ _
    cases hxk : (x.1 == key)
    · gi_wp2
      exact ⟨KeepsFrom.refl _ _, Below.refl _ _, ⟨fun p hp' => (List.mem_append.1 hp').elim (hp p) (fun e => by simp at e; subst e; exact hxk), hck, ⟨hcs, hfs⟩, ⟨hct, hft⟩⟩, hB⟩
    · gi_wp2
      have k1 : (W.setCell ⟨w.heap.size + 1, 0, none⟩ (.string x.2)).cell? ⟨w.heap.size + 1, 0, none⟩ = some (.string x.2) := World.cell?_setCell_same' _ _ _ (by rw [hcs]; rfl)
      have k2 : (W.setCell ⟨w.heap.size + 1, 0, none⟩ (.string x.2)).cell? ⟨w.heap.size + 1 + 1, 0, none⟩ = some (.bool false) := by rw [World.cell?_setCell_other _ _ _ _ (by simp)]; exact hct
      exact ⟨((KeepsOthers.setCell _ _ _).trans (KeepsOthers.setCell _ _ _)).from _, ⟨rfl, pre, x, rfl, hp, hxk, by rw [World.cell?_setCell_other _ _ _ _ (by simp)]; exact k1, World.cell?_setCell_same' _ _ _ (by rw [k2]; rfl)⟩, (hB.setCell (p := ⟨w.heap.size + 1, 0, none⟩) (by simp) _).setCell (p := ⟨w.heap.size + 1 + 1, 0, none⟩) (by simp; omega) _⟩
  case done =>
    rintro D ys W hD rfl ⟨⟨hne, hck, ⟨hcs, hfs⟩, ⟨hct, hft⟩⟩, hB⟩ hK
    gi_wp2
    have k1 : (W.setCell ⟨w.heap.size + 1, 0, none⟩ (.string ⟨#[]⟩)).cell? ⟨w.heap.size + 1, 0, none⟩ = some (.string ⟨#[]⟩) := World.cell?_setCell_same' _ _ _ (by rw [hcs]; rfl)
    have k2 : (W.setCell ⟨w.heap.size + 1, 0, none⟩ (.string ⟨#[]⟩)).cell? ⟨w.heap.size + 1 + 1, 0, none⟩ = some (.bool false) := by rw [World.cell?_setCell_other _ _ _ _ (by simp)]; exact hct
    have m1 : ((W.setCell ⟨w.heap.size + 1, 0, none⟩ (.string ⟨#[]⟩)).setCell ⟨w.heap.size + 1 + 1, 0, none⟩ (.bool false)).cell? ⟨w.heap.size + 1, 0, none⟩ = some (.string ⟨#[]⟩) := by rw [World.cell?_setCell_other _ _ _ _ (by simp)]; exact k1
    have m2 : ((W.setCell ⟨w.heap.size + 1, 0, none⟩ (.string ⟨#[]⟩)).setCell ⟨w.heap.size + 1 + 1, 0, none⟩ (.bool false)).cell? ⟨w.heap.size + 1 + 1, 0, none⟩ = some (.bool false) := World.cell?_setCell_same' _ _ _ (by rw [k2]; rfl)
    have hK' := ((KeepsOthers.setCell W ⟨w.heap.size + 1, 0, none⟩ (.string ⟨#[]⟩)).trans (KeepsOthers.setCell _ ⟨w.heap.size + 1 + 1, 0, none⟩ (.bool false))).same D _ hK rfl
    refine ⟨by simp, .inl ⟨_, _, rfl, run_takeDeferred hK', ?_⟩⟩
    have p1 := cell_kept m1 (grownBy_putObj' _ D (.deferred none)) (fun r e => by cases e; exact ⟨_, hK', rfl⟩)
    have p2 := cell_kept m2 (grownBy_putObj' _ D (.deferred none)) (fun r e => by cases e; exact ⟨_, hK', rfl⟩)
    refine ⟨.tuple #[.string ⟨#[]⟩, .bool false], ?_, by rw [lookP_none hne], ((hB.setCell (p := ⟨w.heap.size + 1, 0, none⟩) (by simp) _).setCell (p := ⟨w.heap.size + 1 + 1, 0, none⟩) (by simp; omega) _).trans (belowK_b (w := w) (Nat.le_refl _) _ D _ _ (by simp at hD; omega) hK' rfl rfl)⟩
    simp [results, Try.f43, go_sem, p1, p2]
  case stop =>
    rintro D c pre W hD ⟨k, hk, rfl⟩ ⟨⟨rfl, ini, last, e1, e2, e3, hc1, hc2⟩, hB⟩ hK
    gi_wp2
    refine ⟨by simp, .inl ⟨_, _, rfl, run_takeDeferred hK, ?_⟩⟩
    have p1 := cell_kept hc1 (grownBy_putObj' _ D (.deferred none)) (fun r e => by cases e; exact ⟨_, hK, rfl⟩)
    have p2 := cell_kept hc2 (grownBy_putObj' _ D (.deferred none)) (fun r e => by cases e; exact ⟨_, hK, rfl⟩)
    refine ⟨.tuple #[.string last.2, .bool true], ?_, by rw [lookP_take e1 e2 e3], hB.trans (belowK_b (w := w) (Nat.le_refl _) W D _ _ (by simp at hD; omega) hK rfl rfl)⟩
    simp [results, Try.f43, go_sem, p1, p2]

theorem f47 (a : Option Addr) (cap : Nat) (ps : List Pr) (key : Int) (hlen : ps.length ≤ 1048576) (w : World) (hI : ArgP w.heap.size w a ps) :
    Calls Try.prog 43 #[.slice a ps.length cap, .int .i64 key] w fun e W' => e = .returned (.tuple #[.string (lookP ps key).1, .bool (lookP ps key).2]) ∧ Below w.heap.size w W' :=
  (callsIn_wide (n := 3)).1 (look_in Fence.wide 3 trivial trivial trivial rfl (by omega) a cap ps key hlen w hI)

end Go.Proofs.Ytahbicegmioplaa
