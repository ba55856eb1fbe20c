/- Rules read by the program. -/
import Derived.Maps.AppendAt
import Derived.Test.YtkaekiodjjhjkaaDoorNZ
import Derived.Test.YtkaekiodjjhjkaaDoorRG2
import Derived.Test.YtkaekiodjjhjkaaDoorNO
namespace Go.Proofs.YtkaekiodjjhjkaaDoor
open Go.RowKit Go.Shelf
set_option linter.unusedVariables false
set_option linter.unusedSimpArgs false
attribute [local go_sem] Oper.semAt_some
def fullL (r : Ru) : ByteArray := bodyRu r ++ NL
/-- Lines that are rules' are read as those rules. -/
def ReadsL (pre : List ByteArray) (l : List Ru) : Prop := l.length = pre.length ∧ ∀ l0 : List Ru, (∀ r ∈ l0, ruOk r = true) → pre = l0.map fullL → l = l0
theorem ReadsL.nil : ReadsL [] [] := ⟨rfl, fun l0 _ h => by cases l0 with | nil => rfl | cons _ _ => cases h⟩
theorem ReadsL.snoc {pre : List ByteArray} {l : List Ru} {x : ByteArray} {r : Ru} {q : Bool} (h : ReadsL pre l) (hr : RuleR (chop x) r q) : ReadsL (pre ++ [x]) (l ++ [r]) := by
  refine ⟨by simp [h.1], fun l0 h0 e => ?_⟩
  rcases List.eq_nil_or_concat l0 with rfl | ⟨l1, p, rfl⟩
  · simp at e
  · simp only [List.concat_eq_append, List.map_append, List.map_cons, List.map_nil] at e
    obtain ⟨e1, e2⟩ := List.append_inj' e rfl
    have e3 : x = fullL p := by simpa using e2
    have a := h.2 l1 (fun r hr => h0 r (by simp [hr])) e1
    have b := (hr p (h0 p (by simp)) (by rw [e3]; exact chop_body _)).1
    rw [a, b, List.concat_eq_append]
theorem lines_get {s : ByteArray} {l : List Ru} (h : getM s = some l) : linesM s = l.map fullL := by
  obtain ⟨h1, _, h3⟩ := cat_get h
  rw [← h3, lines_cat l h1]; rfl
theorem get_bad {s x : ByteArray} {pre : List ByteArray} {r : Ru} (hp : pre ++ [x] <+: linesM s) (hr : RuleR (chop x) r false) : getM s = none := by
  cases h : getM s with
  | none => rfl
  | some l =>
    have e := lines_get h
    obtain ⟨h1, _, _⟩ := cat_get h
    have hx : x ∈ linesM s := hp.subset (by simp)
    rw [e] at hx
    obtain ⟨p, hpl, rfl⟩ := List.mem_map.1 hx
    exact absurd (hr p (h1 p hpl) (chop_body _)).2 (by decide)
theorem info_ru : (Tryd.prog.info? 36).map (fun i => (i.zero, i.size, i.bytes)) = some (some (.agg #[.int .i64 0, .int .i64 0, .int .i64 0, .int .i64 0, .int .i64 0]), 5, 40) := by kernel_rfl
theorem c_trim (x : ByteArray) (hx : x.size ≤ 1048576) (w : World) : Calls Tryd.prog 22 #[.string x, .string ⟨#[10]⟩] w fun e w' => e = .returned (.string (chop x)) ∧ w' = w := Tryd.strings_TrimSuffix x ⟨#[10]⟩ w (by omega)
theorem c_lines (s : ByteArray) (w : World) : Calls Tryd.prog 20 #[.string s] w fun e w' => e = .returned (.func (.func 37) #[] #[.pointer (some ⟨w.heap.size, 0, none⟩)]) ∧ w' = w.alloc (.cells #[.string s] 9) := by
  go_enter Tryd.func20, Tryd.ntmps20
  go_wp2_with fail
  go_ret
  exact ⟨rfl, rfl⟩
/-- What holds when some lines have been read. -/
def GetI (w : World) (pre : List ByteArray) (W : World) : Prop :=
  (∃ (v : Value) (l : List Ru), Boxed W (w.heap.size + 1 + 1) 23 v ∧ W.ownsRow w.heap.size 36 5 v l.length (cellsOf Ru.arr l) ∧ (l = [] → v = .slice none 0 0) ∧ ReadsL pre l) ∧
  Boxed W w.heap.size 23 (.slice none 0 0) ∧ Boxed W (w.heap.size + 1) 4 (.bool false) ∧ (∃ t, Boxed W (w.heap.size + 1 + 1 + 1) 9 t) ∧ Below w.heap.size w W
def GetX (w : World) (pre : List ByteArray) (W : World) : Prop :=
  (∃ ini x r, pre = ini ++ [x] ∧ RuleR (chop x) r false) ∧ Boxed W w.heap.size 23 (.slice none 0 0) ∧ Boxed W (w.heap.size + 1) 4 (.bool false) ∧ Below w.heap.size w W
theorem boxed_ownF {β : Type} (B b : Nat) (t : TypeId) (v : Value) : OwnFrom B (fun (_ : β) W => Boxed W b t v) := Own.from (boxed_own b t fun _ => v) B
theorem GetI.own (w : World) {B : Nat} (hB : w.heap.size ≤ B) : OwnFrom B (GetI w) := by
  refine OwnFrom.and (Own.from ?_ _) (OwnFrom.and (boxed_ownF _ _ _ _) (OwnFrom.and (boxed_ownF _ _ _ _) (OwnFrom.and (Own.from ?_ _) (ownFrom_below (Nat.le_refl _) hB))))
  · rintro s X Y row ⟨v, l, hb, hr, hn, hl⟩ hg hrow
    obtain ⟨v', a, b, rfl⟩ := holdsRow_own (β := Unit) w.heap.size (w.heap.size + 1 + 1) 23 36 5 (fun _ => l.length) (fun _ => cellsOf Ru.arr l) (fun _ u => u = v) () X Y row ⟨v, hb, hr, rfl⟩ hg hrow
    exact ⟨v', l, a, b, hn, hl⟩
  · rintro s X Y row ⟨t, ht⟩ hg hrow
    exact ⟨t, boxed_own (β := Unit) _ _ (fun _ => t) () X Y row ht hg hrow⟩
theorem GetX.own (w : World) {B : Nat} (hB : w.heap.size ≤ B) : OwnFrom B (GetX w) :=
  OwnFrom.and (ownFrom_pure B _) (OwnFrom.and (boxed_ownF _ _ _ _) (OwnFrom.and (boxed_ownF _ _ _ _) (ownFrom_below (Nat.le_refl _) hB)))
theorem GetI.free (w : World) : CellFree (w.heap.size + 1 + 1 + 1) (GetI w) := by
  rintro pre W u ⟨⟨v, l, hb, hr, hn, hl⟩, h1, h2, ⟨t, ht⟩, h3⟩
  exact ⟨⟨v, l, hb.other (by omega) u, hr.kept (grownBy_setCell' W _ u) (.inr (ht.not_row (by decide) hr).symm), hn, hl⟩, h1.other (by omega) u, h2.other (by omega) u, ⟨u, ht.set u⟩, h3.setCell (p := ⟨w.heap.size + 1 + 1 + 1, 0, none⟩) (by dsimp only; omega) u⟩
theorem cells_new (w : World) (A : List Value) (t : TypeId) : ∀ (j : Nat) (u : Value), A[j]? = some u → (w.alloc (.cells A.toArray t)).cell? ((⟨w.heap.size, 0, none⟩ : Addr).add j) = some u := fun j u h => by
  have := (bx_alloc w A.toArray t).cell j
  rw [show ((⟨w.heap.size, 0, none⟩ : Addr).add j) = ⟨w.heap.size, j, none⟩ by simp [Addr.add]; exact fun h => h.symm, this, List.getElem?_toArray, h]
theorem below_others {W w1 : World} (h : Below W.heap.size W w1) : KeepsOthers W w1 := ⟨h.size, fun k o hk _ => (h.block k (Array.getElem?_eq_some_iff.1 hk).1).trans hk⟩
theorem below_grown {W w1 : World} (h : Below W.heap.size W w1) : W.grownBy w1 none := ⟨h.os, h.tape, h.output, h.size, fun k hk _ => h.block k hk⟩
theorem row_of {W : World} {n0 : Nat} {v : Value} {L : List Ru} (h : W.ownsRow n0 36 5 v L.length (cellsOf Ru.arr L)) : (v = .slice none 0 0 ∧ L = []) ∨ ∃ g cap, v = .slice (some ⟨g, 0, none⟩) L.length cap ∧ RowAt W g 0 L.length 5 fun i => (L.getD i ⟨0, 0, 0, 0, 0⟩).arr := by
  rcases h.2 with ⟨h1, h2⟩ | ⟨g, cap, cur, h1, _, hg, h2, _, h3, h4⟩
  · exact .inl ⟨h1, List.length_eq_zero_iff.1 h2⟩
  · refine .inr ⟨g, cap, h1, (Array.getElem?_eq_some_iff.1 hg).1, fun i hi j hj => ⟨?_, hj⟩⟩
    have e1 : W.cell? ⟨g, 0 + i * 5 + j, none⟩ = cur[0 + i * 5 + j]? := BX.cell (T := 36) hg _
    have e2 := cellsOf_get RuSz L i j _ (List.getElem?_eq_getElem hi) hj
    show W.cell? ⟨g, 0 + i * 5 + j, none⟩ = (L.getD i ⟨0, 0, 0, 0, 0⟩).arr[j]?
    rw [e1, List.getD_eq_getElem?_getD, List.getElem?_eq_getElem hi, Option.getD_some, ← e2, ← h4, Nat.zero_add, List.getElem?_take, if_pos (by omega), Array.getElem?_toList]
/-- Rules in memory, or none: written. -/
theorem c_iputO {W : World} {n0 : Nat} {v : Value} {L : List Ru} (h : W.ownsRow n0 36 5 v L.length (cellsOf Ru.arr L)) (hL : L.length ≤ 1048576) (hT : TabsR W) :
    Calls Tryd.prog 6 #[v] W fun e w' => e = .returned (.string (putR (fun i => L.getD i ⟨0, 0, 0, 0, 0⟩) L.length)) ∧ Below W.heap.size W w' := by
  rcases row_of h with ⟨rfl, rfl⟩ | ⟨g, cap, rfl, hR⟩
  · exact c_iput0 none 0 W
  · exact c_iput _ g 0 L.length cap W hR hL hT
theorem getD_all (L : List Ru) : (List.range L.length).map (fun i => L.getD i ⟨0, 0, 0, 0, 0⟩) = L := by
  apply List.ext_getElem
  · simp
  · intro i h1 h2
    simp at h1 ⊢
    rw [List.getElem?_eq_getElem h1]; rfl
/-- What was written is the text: the rules are the text's. -/
theorem put_is {s : ByteArray} {L : List Ru} (hl : ReadsL (linesM s) L) (h : putR (fun i => L.getD i ⟨0, 0, 0, 0, 0⟩) L.length = s) : getM s = some L := by
  unfold putR at h
  split at h
  · rename_i hok
    obtain ⟨h1, h2⟩ := ruOks_all hok
    rw [catR_list, getD_all] at h
    rw [← h]
    refine get_cat (fun r hr => ?_) h2
    obtain ⟨i, hi, rfl⟩ := List.getElem_of_mem hr
    have := h1 i hi
    rwa [List.getD_eq_getElem?_getD, List.getElem?_eq_getElem hi, Option.getD_some] at this
  · rename_i hok
    have hs : s.size = 0 := by rw [← h]; rfl
    have e := hl.1
    rw [linesM_nil hs] at e
    obtain rfl := List.length_eq_zero_iff.1 e
    exact absurd rfl hok
theorem put_not {s : ByteArray} {L : List Ru} (hl : ReadsL (linesM s) L) (h : ¬ putR (fun i => L.getD i ⟨0, 0, 0, 0, 0⟩) L.length = s) : getM s = none := by
  cases hg : getM s with
  | none => rfl
  | some l =>
    refine absurd ?_ h
    obtain ⟨h1, h2, h3⟩ := cat_get hg
    obtain rfl := hl.2 l h1 (lines_get hg)
    unfold putR
    rw [if_pos, catR_list, getD_all, h3]
    unfold ruOks
    rw [ruAll_yes, Bool.true_and]
    · exact decide_eq_true (by omega)
    · intro i hi
      rw [List.getD_eq_getElem?_getD, List.getElem?_eq_getElem hi, Option.getD_some]
      exact h1 _ (List.getElem_mem hi)
/-- What the program answers: rules of a text, or none. -/
def GetAns (s : ByteArray) (w : World) (e : Ending) (w' : World) : Prop :=
  (getM s = none ∧ e = .returned (.tuple #[.slice none 0 0, .bool false]) ∧ Below w.heap.size w w') ∨
  (∃ l, getM s = some l ∧ ∃ v, e = .returned (.tuple #[v, .bool true]) ∧ w'.ownsRow w.heap.size 36 5 v l.length (cellsOf Ru.arr l) ∧ (l = [] → v = .slice none 0 0) ∧ Below w.heap.size w w')
set_option maxRecDepth 100000 in
set_option maxHeartbeats 4000000 in
theorem get_in (s : ByteArray) (hs : s.size ≤ 1048576) (w : World) (hT : TabsRG w) :
    CallsIn Fence.wide 3 Tryd.prog 10 #[.string s] w (GetAns s w) := by
  refine callsIn_of_wp_marks Tryd.func10 rfl trivial ?_ rfl
  simp only [Tryd.ntmps10, List.size_toArray, List.length_cons, List.length_nil, Nat.reduceAdd, Nat.reduceSub, Array.replicate_succ, Array.replicate_zero, List.push_toArray, List.append_toArray, List.nil_append, List.cons_append]
  gi_wp2_with (refine ⟨trivial, ?_⟩; gi_at_call 20; refine (callsIn_wide.2 (c_lines _ _)).mono ?_; rintro e w' ⟨rfl, hw⟩; rw [hw]; clear hw w')
  obtain ⟨w3, hw3⟩ : ∃ w3, w3 = ((w.alloc (.cells #[.slice none 0 0] 23)).alloc (.cells #[.bool false] 4)).alloc (.cells #[.slice none 0 0] 23) := ⟨_, rfl⟩
  have hz3 : w3.heap.size = w.heap.size + 1 + 1 + 1 := by rw [hw3]; simp
  have bR := Boxed.new w 23 (.slice none 0 0)
  have bK := Boxed.new (w.alloc (.cells #[.slice none 0 0] 23)) 4 (.bool false)
  have bL := Boxed.new ((w.alloc (.cells #[.slice none 0 0] 23)).alloc (.cells #[.bool false] 4)) 23 (.slice none 0 0)
  simp only [World.size_alloc] at bK bL
  have bR3 : Boxed w3 w.heap.size 23 (.slice none 0 0) := by rw [hw3]; exact (bR.alloc _).alloc _
  have bK3 : Boxed w3 (w.heap.size + 1) 4 (.bool false) := by rw [hw3]; exact bK.alloc _
  have bL3 : Boxed w3 (w.heap.size + 1 + 1) 23 (.slice none 0 0) := by rw [hw3]; exact bL
  have hB3 : Below w.heap.size w w3 := by rw [hw3]; exact (((Below.refl _ w).alloc (Nat.le_refl _) _).alloc (by simp) _).alloc (by simp; omega) _
  have bC := Boxed.new w3 9 (.string s)
  rw [hz3] at bC
  have hI0 : GetI w [] (w3.alloc (.cells #[.string s] 9)) := ⟨⟨.slice none 0 0, [], bL3.alloc _, World.ownsRow_nil .., fun _ => rfl, ReadsL.nil⟩, bR3.alloc _, bK3.alloc _, ⟨_, bC⟩, hB3.alloc (by omega) _⟩
  have hseq := lines_seq 2 (by omega) (w.heap.size + 1 + 1 + 1) s hs (w3.alloc (.cells #[.string s] 9)) bC
  have hz4 : (w3.alloc (.cells #[.string s] 9)).heap.size = w.heap.size + 1 + 1 + 1 + 1 := by simp [hz3]
  rw [← hw3]
  refine wpIn_rangeCell rfl (by omega) (gf := 37) (lb := #[.pointer (some ⟨w.heap.size + 1 + 1 + 1, 0, none⟩)]) (by rw [← hz3]; rfl) trivial (enters_of Tryd.func37 (by kernel_rfl) rfl) (C := w.heap.size + 1 + 1 + 1) (by rw [hz4]; omega) hseq (fun _ => rfl)
    (GetI w) (GetX w) (GetI.own w (by rw [hz4]; omega)) (GetX.own w (by rw [hz4]; omega)) (GetI.free w) hI0
    (fun x => { tmps := #[.string s, undef, .pointer (some ⟨w.heap.size, 0, none⟩), .pointer (some ⟨w.heap.size + 1, 0, none⟩), .pointer (some ⟨w.heap.size + 1 + 1, 0, none⟩), .string x, undef, undef, .string s, .func (.func 37) #[] #[.pointer (some ⟨w.heap.size + 1 + 1 + 1, 0, none⟩)], .string x, undef, undef, undef, undef, undef, undef, undef, undef, undef, undef, undef, undef, undef, undef, undef, undef, undef], defers := [] }) ?assign ?body ?done ?stop
  case assign => rintro l x W K hK; gi_wp2; exact hK
  case body =>
    rintro l pre x W ⟨⟨v, L, hb, hr, _, hl⟩, h1, h2, ⟨t, ht⟩, h3⟩ hx
    have hxs : x.size ≤ 1048576 := by
      have := linesM_size s.size s (Nat.le_refl _) x (hx.subset (by simp)); omega
    have hcs : (chop x).size ≤ 1048576 := by have := chop_le x; omega
    have hTW : TabsRG W := hT.kb (KB.of_below h3) rfl
    obtain ⟨i0, hi0, hz0, hz1, hz2⟩ := info_parts info_ru
    have hLl : L.length ≤ 1048576 := by
      have e1 := hl.1; have e2 := linesM_len s.size s (Nat.le_refl _); have e3 := hx.length_le; simp at e3; omega
    gi_wp2_with (first | (refine ⟨trivial, ?_⟩; gi_at_call 22; refine (CallsIn.inRound l (callsIn_wide.2 (c_trim x hxs W))).mono ?_; rintro e w' ⟨rfl, hw⟩; rw [hw]; clear hw w') | (refine ⟨trivial, ?_⟩; gi_at_call 21; refine (CallsIn.inRound l (callsIn_wide.2 (c_ruleGet (chop x) W hTW hcs))).mono ?_; rintro e w1 ⟨⟨ra, ro, rn, rv, rk⟩, q, rfl, hrr, hb1⟩; dsimp only [Ru.arr]; have hszW := hb1.size; have bL1 : Boxed w1 (w.heap.size + 1 + 1) 23 v := Eq.trans (hb1.block _ hb.lt) hb; have c1 := bL1.cell; have hl1 := bL1.lt; have f1 := bL1.frozen; have bR1 : Boxed w1 w.heap.size 23 (.slice none 0 0) := Eq.trans (hb1.block _ h1.lt) h1; have bK1 : Boxed w1 (w.heap.size + 1) 4 (.bool false) := Eq.trans (hb1.block _ h2.lt) h2; have cR := bR1.cell; have fR := bR1.frozen; have lR := bR1.lt; have cK := bK1.cell; have fK := bK1.frozen; have lK := bK1.lt; have hn3 : ¬ w1.heap.size = w.heap.size := (by omega); have hn4 : ¬ w.heap.size = w1.heap.size := (by omega); have hn5 : ¬ w1.heap.size = w.heap.size + 1 := (by omega); have hn6 : ¬ w.heap.size + 1 = w1.heap.size := (by omega); have hr1 := hr.kept (below_grown hb1) (by cases hv : v.ownBlock <;> simp); have hn1 : ¬ w1.heap.size = w.heap.size + 1 + 1 := (by omega); have hn2 : ¬ w.heap.size + 1 + 1 = w1.heap.size := (by omega)) | (gi_at_builtin; refine wpListIn_append_own _ rfl _ _ 23 rfl w.heap.size 36 i0 (.agg #[.int .i64 0, .int .i64 0, .int .i64 0, .int .i64 0, .int .i64 0]) 5 40 Tryd.underlying23 hi0 hz0 hz1 hz2 rfl (by decide) _ _ _ rfl ((hr1.alloc _).alloc _) ⟨w1.heap.size + 1, 0, none⟩ 1 1 [.int .i64 ra, .int .i64 ro, .int .i64 rn, .int .i64 rv, .int .i64 rk] rfl rfl (by have hcn := cells_new (w1.alloc (.cells #[.int .i64 ra, .int .i64 ro, .int .i64 rn, .int .i64 rv, .int .i64 rk] 36)) [.int .i64 ra, .int .i64 ro, .int .i64 rn, .int .i64 rv, .int .i64 rk] 36; simp only [World.size_alloc] at hcn; exact hcn) (by simp [Value.oneCell']) (by unfold maxLen; omega) (by omega) (by simp; omega) ?_; intro v' w5 hown' hgrow _; obtain ⟨g', cap', rfl⟩ := ownsRow_succ hown'; obtain ⟨hv1, hv2, hr2, hk2, hb2⟩ := (bL1.alloc (.cells #[.int .i64 ra, .int .i64 ro, .int .i64 rn, .int .i64 rv, .int .i64 rk] 36)).appended (by decide) (hr1.alloc _) (by simp; omega) (by omega) hown' hgrow; have hc5 := hv1.cell; have hf5 := hv1.frozen))
    · have hq : q = false := by first | assumption | simpa using ‹(!q) = true›
      subst hq
      refine ⟨(((below_others hb1).trans ((KeepsOthers.setCell _ _ _).trans (KeepsOthers.setCell _ _ _))).trans (KeepsOthers.alloc _ _)).from _, rfl, ⟨pre, x, _, rfl, hrr⟩, ((bR1.set _).other (by omega) _).alloc _, ((bK1.other (by omega) _).set _).alloc _, ?_⟩
      exact (((h3.trans (hb1.mono h3.size)).setCell (p := ⟨w.heap.size, 0, none⟩) (Nat.le_refl _) _).setCell (p := ⟨w.heap.size + 1, 0, none⟩) (Nat.le_succ _) _).alloc (by simp; omega) _
    · have hCt : Boxed w1 (w.heap.size + 1 + 1 + 1) 9 t := Eq.trans (hb1.block _ ht.lt) ht
      have hC5 : Boxed w5 (w.heap.size + 1 + 1 + 1) 9 t := ((hCt.alloc _).alloc _).kept hgrow (hCt.not_row (by decide) hr1)
      have hC6 := hC5.other (show w.heap.size + 1 + 1 + 1 ≠ w.heap.size + 1 + 1 by omega) (.slice (some ⟨g', 0, none⟩) (L.length + 1) cap')
      refine ⟨(((below_others hb1).trans (KeepsOthers.alloc _ _)).trans hk2).from _, Eq.trans hC6 ht.symm, ⟨_, L ++ [⟨ra, ro, rn, rv, rk⟩], hv2, ?_, fun e => absurd e (by simp), hl.snoc hrr⟩, ?_, ?_, ⟨t, hC6⟩, ?_⟩
      · rw [List.length_append, cellsOf_app]; exact hr2
      · exact (((bR1.alloc _).alloc _).kept hgrow (bR1.not_row (by decide) hr1)).other (by omega) _
      · exact (((bK1.alloc _).alloc _).kept hgrow (bK1.not_row (by decide) hr1)).other (by omega) _
      · exact ((h3.trans (hb1.mono h3.size)).alloc (by omega) _).trans hb2
  case done =>
    rintro D xs W hD rfl ⟨⟨v, L, hb, hr, hn, hl⟩, h1, h2, _, h3⟩ hK
    have hLl : L.length ≤ 1048576 := by
      have e1 := hl.1; have e2 := linesM_len s.size s (Nat.le_refl _); omega
    have HN := hid hn
    clear hn
    have hcp := c_iputO hr hLl (hT.t.kb (KB.of_below h3) rfl)
    rcases hr.2 with ⟨rfl, _⟩ | ⟨g, cap, cur, rfl, _⟩
    · by_cases hq : putR (fun i => L.getD i ⟨0, 0, 0, 0, 0⟩) L.length = s
      · rw [hq] at hcp
        have HQ := hid hq
        have HL := hid hl
        clear hq hl
        have hcL := hb.cell
        gi_wp2_with (refine ⟨trivial, ?_⟩; gi_at_call 6; refine (callsIn_wide.2 hcp).mono ?_; rintro e w1 ⟨rfl, hb1⟩; have bR1 : Boxed w1 w.heap.size 23 (.slice none 0 0) := Eq.trans (hb1.block _ h1.lt) h1; have bK1 : Boxed w1 (w.heap.size + 1) 4 (.bool false) := Eq.trans (hb1.block _ h2.lt) h2; have bL1 : Boxed w1 (w.heap.size + 1 + 1) 23 (.slice none 0 0) := Eq.trans (hb1.block _ hb.lt) hb; have cL1 := bL1.cell; have cR := bR1.cell; have fR := bR1.frozen; have cK := bK1.cell; have fK := bK1.frozen)
        have q1 : Boxed ((w1.setCell ⟨w.heap.size, 0, none⟩ (.slice none 0 0)).setCell ⟨w.heap.size + 1, 0, none⟩ (.bool true)) w.heap.size 23 (.slice none 0 0) := (bR1.set _).other (by omega) _
        have q2 : Boxed ((w1.setCell ⟨w.heap.size, 0, none⟩ (.slice none 0 0)).setCell ⟨w.heap.size + 1, 0, none⟩ (.bool true)) (w.heap.size + 1) 4 (.bool true) := (bK1.other (by omega) _).set _
        have hK' : ((w1.setCell ⟨w.heap.size, 0, none⟩ (.slice none 0 0)).setCell ⟨w.heap.size + 1, 0, none⟩ (.bool true)).heap[D]? = some (.deferred (some [])) := ((below_others hb1).trans ((KeepsOthers.setCell _ _ _).trans (KeepsOthers.setCell _ _ _))).same D _ hK rfl
        have hB' : Below w.heap.size w ((w1.setCell ⟨w.heap.size, 0, none⟩ (.slice none 0 0)).setCell ⟨w.heap.size + 1, 0, none⟩ (.bool true)) := ((h3.trans (hb1.mono h3.size)).setCell (p := ⟨w.heap.size, 0, none⟩) (Nat.le_refl _) _).setCell (p := ⟨w.heap.size + 1, 0, none⟩) (Nat.le_succ _) _
        refine ⟨by simp, .inl ⟨_, _, rfl, run_takeDeferred hK', ?_⟩⟩
        have p1 := cell_kept q1.cell (grownBy_putObj' _ D (.deferred none)) (fun r e => by cases e; exact ⟨_, hK', rfl⟩)
        have p2 := cell_kept q2.cell (grownBy_putObj' _ D (.deferred none)) (fun r e => by cases e; exact ⟨_, hK', rfl⟩)
        have hr1 := hr.kept (below_grown hb1) (by simp [Value.ownBlock])
        have hr2 := hr1.kept (grownBy_setCell' w1 w.heap.size (.slice none 0 0)) (.inr (bR1.not_row (by decide) hr1).symm)
        have hr3 := hr2.kept (grownBy_setCell' (w1.setCell ⟨w.heap.size, 0, none⟩ (.slice none 0 0)) (w.heap.size + 1) (.bool true)) (.inr ((bK1.other (show w.heap.size + 1 ≠ w.heap.size by omega) (.slice none 0 0)).not_row (by decide) hr2).symm)
        refine ⟨.tuple #[.slice none 0 0, .bool true], ?_, .inr ⟨L, put_is HL.out HQ.out, .slice none 0 0, rfl, ownsRow_putObj hr3 _ hK' rfl, fun _ => rfl, hB'.trans (belowK_b (w := w) (Nat.le_refl _) _ D _ _ (by omega) hK' rfl rfl)⟩⟩
        simp [results, Tryd.f10, go_sem, p1, p2]
      · obtain ⟨P, hP⟩ : ∃ P, P = putR (fun i => L.getD i ⟨0, 0, 0, 0, 0⟩) L.length := ⟨_, rfl⟩
        rw [← hP] at hcp
        have HP := hid hP
        have HQ := hid hq
        have HL := hid hl
        clear hl
        have hcL := hb.cell
        have hne : (P.toList == s.toList) = false := by
          cases h : (P.toList == s.toList)
          · rfl
          · exact absurd (HP.out.symm.trans ((seq_iff _ _).1 h)) HQ.out
        have hne2 : (P.toList != s.toList) = true := by rw [bne, hne]; rfl
        clear hP hq
        gi_wp2_with (refine ⟨trivial, ?_⟩; gi_at_call 6; refine (callsIn_wide.2 hcp).mono ?_; rintro e w1 ⟨rfl, hb1⟩; have bR1 : Boxed w1 w.heap.size 23 (.slice none 0 0) := Eq.trans (hb1.block _ h1.lt) h1; have bK1 : Boxed w1 (w.heap.size + 1) 4 (.bool false) := Eq.trans (hb1.block _ h2.lt) h2; have bL1 : Boxed w1 (w.heap.size + 1 + 1) 23 (.slice none 0 0) := Eq.trans (hb1.block _ hb.lt) hb; have cL1 := bL1.cell; have cR := bR1.cell; have fR := bR1.frozen; have cK := bK1.cell; have fK := bK1.frozen)
        have q1 : Boxed ((w1.setCell ⟨w.heap.size, 0, none⟩ (.slice none 0 0)).setCell ⟨w.heap.size + 1, 0, none⟩ (.bool false)) w.heap.size 23 (.slice none 0 0) := (bR1.set _).other (by omega) _
        have q2 : Boxed ((w1.setCell ⟨w.heap.size, 0, none⟩ (.slice none 0 0)).setCell ⟨w.heap.size + 1, 0, none⟩ (.bool false)) (w.heap.size + 1) 4 (.bool false) := (bK1.other (by omega) _).set _
        have hK' : ((w1.setCell ⟨w.heap.size, 0, none⟩ (.slice none 0 0)).setCell ⟨w.heap.size + 1, 0, none⟩ (.bool false)).heap[D]? = some (.deferred (some [])) := ((below_others hb1).trans ((KeepsOthers.setCell _ _ _).trans (KeepsOthers.setCell _ _ _))).same D _ hK rfl
        have hB' : Below w.heap.size w ((w1.setCell ⟨w.heap.size, 0, none⟩ (.slice none 0 0)).setCell ⟨w.heap.size + 1, 0, none⟩ (.bool false)) := ((h3.trans (hb1.mono h3.size)).setCell (p := ⟨w.heap.size, 0, none⟩) (Nat.le_refl _) _).setCell (p := ⟨w.heap.size + 1, 0, none⟩) (Nat.le_succ _) _
        refine ⟨by simp, .inl ⟨_, _, rfl, run_takeDeferred hK', ?_⟩⟩
        have p1 := cell_kept q1.cell (grownBy_putObj' _ D (.deferred none)) (fun r e => by cases e; exact ⟨_, hK', rfl⟩)
        have p2 := cell_kept q2.cell (grownBy_putObj' _ D (.deferred none)) (fun r e => by cases e; exact ⟨_, hK', rfl⟩)
        refine ⟨.tuple #[.slice none 0 0, .bool false], ?_, .inl ⟨put_not HL.out HQ.out, rfl, hB'.trans (belowK_b (w := w) (Nat.le_refl _) _ D _ _ (by omega) hK' rfl rfl)⟩⟩
        simp [results, Tryd.f10, go_sem, p1, p2]
    · by_cases hq : putR (fun i => L.getD i ⟨0, 0, 0, 0, 0⟩) L.length = s
      · rw [hq] at hcp
        have HQ := hid hq
        have HL := hid hl
        clear hq hl
        have hcL := hb.cell
        gi_wp2_with (refine ⟨trivial, ?_⟩; gi_at_call 6; refine (callsIn_wide.2 hcp).mono ?_; rintro e w1 ⟨rfl, hb1⟩; have bR1 : Boxed w1 w.heap.size 23 (.slice none 0 0) := Eq.trans (hb1.block _ h1.lt) h1; have bK1 : Boxed w1 (w.heap.size + 1) 4 (.bool false) := Eq.trans (hb1.block _ h2.lt) h2; have bL1 : Boxed w1 (w.heap.size + 1 + 1) 23 (.slice (some ⟨g, 0, none⟩) L.length cap) := Eq.trans (hb1.block _ hb.lt) hb; have cL1 := bL1.cell; have cR := bR1.cell; have fR := bR1.frozen; have cK := bK1.cell; have fK := bK1.frozen)
        have q1 : Boxed ((w1.setCell ⟨w.heap.size, 0, none⟩ (.slice (some ⟨g, 0, none⟩) L.length cap)).setCell ⟨w.heap.size + 1, 0, none⟩ (.bool true)) w.heap.size 23 (.slice (some ⟨g, 0, none⟩) L.length cap) := (bR1.set _).other (by omega) _
        have q2 : Boxed ((w1.setCell ⟨w.heap.size, 0, none⟩ (.slice (some ⟨g, 0, none⟩) L.length cap)).setCell ⟨w.heap.size + 1, 0, none⟩ (.bool true)) (w.heap.size + 1) 4 (.bool true) := (bK1.other (by omega) _).set _
        have hK' : ((w1.setCell ⟨w.heap.size, 0, none⟩ (.slice (some ⟨g, 0, none⟩) L.length cap)).setCell ⟨w.heap.size + 1, 0, none⟩ (.bool true)).heap[D]? = some (.deferred (some [])) := ((below_others hb1).trans ((KeepsOthers.setCell _ _ _).trans (KeepsOthers.setCell _ _ _))).same D _ hK rfl
        have hB' : Below w.heap.size w ((w1.setCell ⟨w.heap.size, 0, none⟩ (.slice (some ⟨g, 0, none⟩) L.length cap)).setCell ⟨w.heap.size + 1, 0, none⟩ (.bool true)) := ((h3.trans (hb1.mono h3.size)).setCell (p := ⟨w.heap.size, 0, none⟩) (Nat.le_refl _) _).setCell (p := ⟨w.heap.size + 1, 0, none⟩) (Nat.le_succ _) _
        refine ⟨by simp, .inl ⟨_, _, rfl, run_takeDeferred hK', ?_⟩⟩
        have p1 := cell_kept q1.cell (grownBy_putObj' _ D (.deferred none)) (fun r e => by cases e; exact ⟨_, hK', rfl⟩)
        have p2 := cell_kept q2.cell (grownBy_putObj' _ D (.deferred none)) (fun r e => by cases e; exact ⟨_, hK', rfl⟩)
        have hr1 := hr.kept (below_grown hb1) (by simp [Value.ownBlock])
        have hr2 := hr1.kept (grownBy_setCell' w1 w.heap.size (.slice (some ⟨g, 0, none⟩) L.length cap)) (.inr (bR1.not_row (by decide) hr1).symm)
        have hr3 := hr2.kept (grownBy_setCell' (w1.setCell ⟨w.heap.size, 0, none⟩ (.slice (some ⟨g, 0, none⟩) L.length cap)) (w.heap.size + 1) (.bool true)) (.inr ((bK1.other (show w.heap.size + 1 ≠ w.heap.size by omega) (.slice (some ⟨g, 0, none⟩) L.length cap)).not_row (by decide) hr2).symm)
        refine ⟨.tuple #[.slice (some ⟨g, 0, none⟩) L.length cap, .bool true], ?_, .inr ⟨L, put_is HL.out HQ.out, .slice (some ⟨g, 0, none⟩) L.length cap, rfl, ownsRow_putObj hr3 _ hK' rfl, HN.out, hB'.trans (belowK_b (w := w) (Nat.le_refl _) _ D _ _ (by omega) hK' rfl rfl)⟩⟩
        simp [results, Tryd.f10, go_sem, p1, p2]
      · obtain ⟨P, hP⟩ : ∃ P, P = putR (fun i => L.getD i ⟨0, 0, 0, 0, 0⟩) L.length := ⟨_, rfl⟩
        rw [← hP] at hcp
        have HP := hid hP
        have HQ := hid hq
        have HL := hid hl
        clear hl
        have hcL := hb.cell
        have hne : (P.toList == s.toList) = false := by
          cases h : (P.toList == s.toList)
          · rfl
          · exact absurd (HP.out.symm.trans ((seq_iff _ _).1 h)) HQ.out
        have hne2 : (P.toList != s.toList) = true := by rw [bne, hne]; rfl
        clear hP hq
        gi_wp2_with (refine ⟨trivial, ?_⟩; gi_at_call 6; refine (callsIn_wide.2 hcp).mono ?_; rintro e w1 ⟨rfl, hb1⟩; have bR1 : Boxed w1 w.heap.size 23 (.slice none 0 0) := Eq.trans (hb1.block _ h1.lt) h1; have bK1 : Boxed w1 (w.heap.size + 1) 4 (.bool false) := Eq.trans (hb1.block _ h2.lt) h2; have bL1 : Boxed w1 (w.heap.size + 1 + 1) 23 (.slice (some ⟨g, 0, none⟩) L.length cap) := Eq.trans (hb1.block _ hb.lt) hb; have cL1 := bL1.cell; have cR := bR1.cell; have fR := bR1.frozen; have cK := bK1.cell; have fK := bK1.frozen)
        have q1 : Boxed ((w1.setCell ⟨w.heap.size, 0, none⟩ (.slice none 0 0)).setCell ⟨w.heap.size + 1, 0, none⟩ (.bool false)) w.heap.size 23 (.slice none 0 0) := (bR1.set _).other (by omega) _
        have q2 : Boxed ((w1.setCell ⟨w.heap.size, 0, none⟩ (.slice none 0 0)).setCell ⟨w.heap.size + 1, 0, none⟩ (.bool false)) (w.heap.size + 1) 4 (.bool false) := (bK1.other (by omega) _).set _
        have hK' : ((w1.setCell ⟨w.heap.size, 0, none⟩ (.slice none 0 0)).setCell ⟨w.heap.size + 1, 0, none⟩ (.bool false)).heap[D]? = some (.deferred (some [])) := ((below_others hb1).trans ((KeepsOthers.setCell _ _ _).trans (KeepsOthers.setCell _ _ _))).same D _ hK rfl
        have hB' : Below w.heap.size w ((w1.setCell ⟨w.heap.size, 0, none⟩ (.slice none 0 0)).setCell ⟨w.heap.size + 1, 0, none⟩ (.bool false)) := ((h3.trans (hb1.mono h3.size)).setCell (p := ⟨w.heap.size, 0, none⟩) (Nat.le_refl _) _).setCell (p := ⟨w.heap.size + 1, 0, none⟩) (Nat.le_succ _) _
        refine ⟨by simp, .inl ⟨_, _, rfl, run_takeDeferred hK', ?_⟩⟩
        have p1 := cell_kept q1.cell (grownBy_putObj' _ D (.deferred none)) (fun r e => by cases e; exact ⟨_, hK', rfl⟩)
        have p2 := cell_kept q2.cell (grownBy_putObj' _ D (.deferred none)) (fun r e => by cases e; exact ⟨_, hK', rfl⟩)
        refine ⟨.tuple #[.slice none 0 0, .bool false], ?_, .inl ⟨put_not HL.out HQ.out, rfl, hB'.trans (belowK_b (w := w) (Nat.le_refl _) _ D _ _ (by omega) hK' rfl rfl)⟩⟩
        simp [results, Tryd.f10, go_sem, p1, p2]
  case stop =>
    rintro D pre W hD hpre ⟨⟨ini, x, r, rfl, hrr⟩, h1, h2, h3⟩ hK
    have hc1 := h1.cell
    have hc2 := h2.cell
    gi_wp2
    refine ⟨by simp, .inl ⟨_, _, rfl, run_takeDeferred hK, ?_⟩⟩
    have p1 := cell_kept hc1 (grownBy_putObj' _ D (.deferred none)) (fun r e => by cases e; exact ⟨_, hK, rfl⟩)
    have p2 := cell_kept hc2 (grownBy_putObj' _ D (.deferred none)) (fun r e => by cases e; exact ⟨_, hK, rfl⟩)
    refine ⟨.tuple #[.slice none 0 0, .bool false], ?_, .inl ⟨get_bad hpre hrr, rfl, h3.trans (belowK_b (w := w) (Nat.le_refl _) W D _ _ (by omega) hK rfl rfl)⟩⟩
    simp [results, Tryd.f10, go_sem, p1, p2]
theorem c_iget (s : ByteArray) (hs : s.size ≤ 1048576) (w : World) (hT : TabsRG w) : Calls Tryd.prog 10 #[.string s] w (GetAns s w) := (callsIn_wide (n := 3)).1 (get_in s hs w hT)
end Go.Proofs.YtkaekiodjjhjkaaDoor
