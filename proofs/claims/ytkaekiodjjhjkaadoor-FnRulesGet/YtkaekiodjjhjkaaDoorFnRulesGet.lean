/- FnRulesGet: at every argument; the tied card. -/
import Derived.Test.YtkaekiodjjhjkaaDoorLRP
import Derived.Test.YtkaekiodjjhjkaaDoorOB
import Derived.Test.YtkaekiodjjhjkaaDoorTie
import Derived.Test.YtkaekiodjjhjkaaDoorCards
import Derived.ProofKit
import Derived.OpenShut
import Derived.LaidMore
import Derived.ShutString
import Derived.ChangeOld
import Derived.Below
import Derived.Lib.LaidTab
import Derived.Stop.Joined
import Derived.SevenTiedAt
import Derived.Lay
namespace Go.Proofs.YtkaekiodjjhjkaaDoor
open Go.ChangeShapes Go.WideShapes Go.ChangeAt Go.RowKit
open Go.ChangeMaps (open_string shut_string)
set_option linter.unusedVariables false

theorem fnRulesGet_own : ownKnob Tryd.prog.godebug = none := by kernel_rfl
theorem fnRulesGet_out : laidOutB Tryd.prog = true := by kernel_rfl
theorem fnRulesGet_lt {P : Program} {w : World} {n : String} {g : Nat} {cs : Array Value} (hg : P.globalNamed n = some g) (h : w.var? P n = some cs) : g < w.heap.size := by
  unfold World.var? at h
  rw [hg] at h
  simp only [Option.bind_some] at h
  rcases Nat.lt_or_ge g w.heap.size with hl | hl
  · exact hl
  · rw [Array.getElem?_eq_none hl] at h
    cases h
theorem fnRulesGet_vb {P : Program} {B g : Nat} {W W' : World} {n : String} {cs : Array Value} (h : Below B W W') (hg : P.globalNamed n = some g) (hgB : g < B) (hv : W.var? P n = some cs) : W'.var? P n = some cs := by
  unfold World.var? at *
  rw [hg] at *
  simp only [Option.bind_some] at *
  rw [h.block g hgB]
  exact hv
/-- An array of texts that reads as these texts holds them. -/
theorem fnRulesGet_strs {H : Type} {enc : TypeId × Value → H} {P : Program} {w : World} {base : Nat} {sp : Nat → Bool} {held : Bool} {fuel : Nat} {t e : TypeId} {n : Nat} {cs : List Value} {ss : List (List UInt8)} {p : List MemPlace}
    (ht : P.underlying t = some (.array n e)) (he : P.underlying e = some .string) (hce : P.cellsOf e = 1) (hct : P.cellsOf t = n)
    (h : DataW.trod enc P w base sp held fuel t cs = some (.agg (ss.map fun s => .lit (.string s)), p)) : cs = ss.map fun s => Value.string ⟨s.toArray⟩ := by
  cases fuel with
  | zero => simp [DataW.trod] at h
  | succ fuel =>
    simp only [DataW.trod, ht, hce, hct, Nat.mul_one] at h
    split at h
    · rename_i hl
      obtain ⟨xs, hm, hx⟩ := Option.map_eq_some_iff.1 h
      have hxs : xs.map (·.1) = ss.map fun s => (DataW.lit (.string s) : DataW H) := by
        have := congrArg Prod.fst hx
        simpa using this
      have hxl : xs.length = n := by simpa using Lib.mapM_length hm
      have hzl : ss.length = n := by
        have := congrArg List.length hxs
        simp at this
        omega
      apply List.ext_getElem?
      intro i
      by_cases hi : i < n
      · obtain ⟨b, hb, hf⟩ := Lib.mapM_at hm i i (by simp [hi])
        obtain ⟨z, hc, rfl, _⟩ := DataW.trod_string he hf
        have h1 : cs[i]? = some (.string z) := by
          have := congrArg (·[0]?) hc
          simpa [List.getElem?_take, List.getElem?_drop] using this
        have h2 : (xs.map (·.1))[i]? = some (DataW.lit (.string z.data.toList) : DataW H) := by simp [hb]
        rw [hxs] at h2
        simp only [List.getElem?_map, Option.map_eq_some_iff, DataW.lit.injEq, Lit.string.injEq] at h2
        obtain ⟨z', hz', rfl⟩ := h2
        simp [h1, hz']
      · rw [List.getElem?_eq_none (by omega), List.getElem?_eq_none (by simp; omega)]
    · cases h

theorem fnRulesGet_g0 : Tryd.prog.globalNamed "math/bits.deBruijn32tab" = some 8 := by kernel_rfl
theorem fnRulesGet_t0 : (Tryd.prog.globals[8]?).map (·.type) = some 131 := by kernel_rfl
theorem fnRulesGet_g1 : Tryd.prog.globalNamed "math/bits.deBruijn64tab" = some 9 := by kernel_rfl
theorem fnRulesGet_t1 : (Tryd.prog.globals[9]?).map (·.type) = some 132 := by kernel_rfl
theorem fnRulesGet_g2 : Tryd.prog.globalNamed "internal/strconv.uint64pow10" = some 3 := by kernel_rfl
theorem fnRulesGet_t2 : (Tryd.prog.globals[3]?).map (·.type) = some 109 := by kernel_rfl
theorem fnRulesGet_g3 : Tryd.prog.globalNamed "unicode/utf8.acceptRanges" = some 7 := by kernel_rfl
theorem fnRulesGet_t3 : (Tryd.prog.globals[7]?).map (·.type) = some 124 := by kernel_rfl
theorem fnRulesGet_g4 : Tryd.prog.globalNamed "strconv.ErrRange" = some 5 := by kernel_rfl
theorem fnRulesGet_t4 : (Tryd.prog.globals[5]?).map (·.type) = some 78 := by kernel_rfl
theorem fnRulesGet_g5 : Tryd.prog.globalNamed "strconv.ErrSyntax" = some 4 := by kernel_rfl
theorem fnRulesGet_t5 : (Tryd.prog.globals[4]?).map (·.type) = some 78 := by kernel_rfl
theorem fnRulesGet_g6 : Tryd.prog.globalNamed "loop.example/steerage/impl.opWords" = some 0 := by kernel_rfl
theorem fnRulesGet_t6 : (Tryd.prog.globals[0]?).map (·.type) = some 54 := by kernel_rfl
theorem fnRulesGet_g7 : Tryd.prog.globalNamed "loop.example/steerage/impl.verdictWords" = some 1 := by kernel_rfl
theorem fnRulesGet_t7 : (Tryd.prog.globals[1]?).map (·.type) = some 55 := by kernel_rfl
theorem fnRulesGet_g8 : Tryd.prog.globalNamed "unicode/utf8.first" = some 6 := by kernel_rfl
theorem fnRulesGet_t8 : (Tryd.prog.globals[6]?).map (·.type) = some 121 := by kernel_rfl

theorem fnRulesGet_if {H : Type} {enc : TypeId × Value → H} {P : Program} {w : World} {base : Nat} {sp : Nat → Bool} {held : Bool} {fuel : Nat} {t : TypeId} {ms : Array (String × TypeId)} {cs : List Value} {x : DataW H × List MemPlace} (ht : P.underlying t = some (.interface ms))
    (h : DataW.trod enc P w base sp held fuel t cs = some x) : ∃ ev, cs = [ev] ∧ (ev = .nilIface ∨ ∃ te pe, ev = .iface te pe) := by
  cases fuel with
  | zero => simp [DataW.trod] at h
  | succ fuel =>
    rcases cs with _ | ⟨v, _ | ⟨v2, r⟩⟩
    · simp [DataW.trod, ht] at h
    · refine ⟨v, rfl, ?_⟩
      cases v <;> simp [DataW.trod, ht] at h ⊢
    · simp [DataW.trod, ht] at h
/-- What the row's list gives the walks. -/
theorem fnRulesGet_tabs {W : World} (h : laidMetH Tryd.prog Rows.fnRulesGetRow.laid W) : TabsRG W := by
  rw [MakeChecks.laidMetH_plain _ _ _ (by kernel_rfl)] at h
  obtain ⟨ps, ⟨g0, t0, cs0, f0, p0, q0, hg0, ht0, hv0, hd0, ⟨g1, t1, cs1, f1, p1, q1, hg1, ht1, hv1, hd1, ⟨g2, t2, cs2, f2, p2, q2, hg2, ht2, hv2, hd2, ⟨g3, t3, cs3, f3, p3, q3, hg3, ht3, hv3, hd3, ⟨g4, t4, cs4, f4, p4, q4, hg4, ht4, hv4, hd4, ⟨g5, t5, cs5, f5, p5, q5, hg5, ht5, hv5, hd5, ⟨g6, t6, cs6, f6, p6, q6, hg6, ht6, hv6, hd6, ⟨g7, t7, cs7, f7, p7, q7, hg7, ht7, hv7, hd7, ⟨g8, t8, cs8, f8, p8, q8, hg8, ht8, hv8, hd8, _, _⟩, _⟩, _⟩, _⟩, _⟩, _⟩, _⟩, _⟩, _⟩, _, _⟩ := h
  obtain rfl := Option.some.inj (fnRulesGet_g6.symm.trans hg6)
  obtain rfl := Option.some.inj (fnRulesGet_t6.symm.trans ht6)
  obtain rfl := Option.some.inj (fnRulesGet_g7.symm.trans hg7)
  obtain rfl := Option.some.inj (fnRulesGet_t7.symm.trans ht7)
  have hlo := fnRulesGet_lt fnRulesGet_g6 hv6
  have hlc := fnRulesGet_lt fnRulesGet_g7 hv7
  obtain rfl := Option.some.inj (fnRulesGet_g2.symm.trans hg2)
  obtain rfl := Option.some.inj (fnRulesGet_t2.symm.trans ht2)
  have hlp := fnRulesGet_lt fnRulesGet_g2 hv2
  have e1 : cs2.toList = Lib.pow10Tab.map fun z => Value.int .u64 z := Lib.cells_of_tab Tryd.underlying109 Tryd.underlying92 (by kernel_rfl) (by kernel_rfl) (show _ = some (Lib.tabData .u64 Lib.pow10Tab, p2) from hd2)
  have e2 : cs6.toList = (wordL.map fun s => s.data.toList).map fun s => Value.string ⟨s.toArray⟩ := fnRulesGet_strs Tryd.underlying54 Tryd.underlying9 (by kernel_rfl) (by kernel_rfl) (show _ = some (DataW.agg ((wordL.map fun s => s.data.toList).map fun s => DataW.lit (Lit.string s)), p6) from hd6)
  have e3 : cs7.toList = (verbL.map fun s => s.data.toList).map fun s => Value.string ⟨s.toArray⟩ := fnRulesGet_strs Tryd.underlying55 Tryd.underlying9 (by kernel_rfl) (by kernel_rfl) (show _ = some (DataW.agg ((verbL.map fun s => s.data.toList).map fun s => DataW.lit (Lit.string s)), p7) from hd7)
  obtain rfl := Option.some.inj (fnRulesGet_g5.symm.trans hg5)
  obtain rfl := Option.some.inj (fnRulesGet_t5.symm.trans ht5)
  have es : ∃ ev, W.cell? ⟨4, 0, none⟩ = some ev ∧ (ev = .nilIface ∨ ∃ te pe, ev = .iface te pe) := by
    obtain ⟨ev, hcs, hev⟩ := fnRulesGet_if Tryd.underlying78 hd5
    refine ⟨ev, ?_, hev⟩
    rw [World.var?_cell fnRulesGet_g5 hv5 0, ← Array.getElem?_toList, hcs]
    rfl
  have esl := fnRulesGet_lt fnRulesGet_g5 hv5
  obtain rfl := Option.some.inj (fnRulesGet_g4.symm.trans hg4)
  obtain rfl := Option.some.inj (fnRulesGet_t4.symm.trans ht4)
  have er : ∃ ev, W.cell? ⟨5, 0, none⟩ = some ev ∧ (ev = .nilIface ∨ ∃ te pe, ev = .iface te pe) := by
    obtain ⟨ev, hcs, hev⟩ := fnRulesGet_if Tryd.underlying78 hd4
    refine ⟨ev, ?_, hev⟩
    rw [World.var?_cell fnRulesGet_g4 hv4 0, ← Array.getElem?_toList, hcs]
    rfl
  have erl := fnRulesGet_lt fnRulesGet_g4 hv4
  refine ⟨⟨?_, rowAt_str (L := wordL) hlo fun k hk => ?_, rowAt_str (L := verbL) hlc fun k hk => ?_, hlp⟩, es, er, esl, erl⟩
  · unfold Lib.TabIs
    rw [hv2, ← e1]
  · have := World.var?_cell fnRulesGet_g6 hv6 k
    rw [this, ← Array.getElem?_toList, e2]
    have hl : k < wordL.length := hk
    simp [List.getD, hl]
  · have := World.var?_cell fnRulesGet_g7 hv7 k
    rw [this, ← Array.getElem?_toList, e3]
    have hl : k < verbL.length := hk
    simp [List.getD, hl]

set_option maxRecDepth 100000 in
theorem fnRulesGet_lifted (os : Os) (started : os.Started) (H : Type) (enc : TypeId × Value → H) :
    ReturnsInHanded {} Tryd.checked os 4 .any (fun w args => (Rows.fnRulesGetSpec.pre enc Tryd.prog Tryd.f4 [] false w args ∧ laidMetH Tryd.prog Rows.fnRulesGetRow.laid w) ∧ sizedMet enc Tryd.prog Tryd.f4 (OpenSpec.ofChange Rows.fnRulesGetSpec) false w args)
      (Rows.fnRulesGetSpec.post enc Tryd.prog Tryd.f4 false true false false) := by
  refine returnsInHanded_of_change_and (C := Tryd.checked) (X := fun w _ => laidMetH Tryd.prog Rows.fnRulesGetRow.laid w) (fun _ _ _ hh h => h.of_heap hh) fnRulesGet_own started (by kernel_rfl) Tryd.func4
    (ChangeSpec.witness_shaped (enc := enc) (C := Tryd.checked) (os := os) (X := fun w _ => laidMetH Tryd.prog Rows.fnRulesGetRow.laid w) false (World.laidAll Tryd.prog os Rows.fnRulesGetRow.laid) #[.slice none 0 0] 8 (World.laidAll_os _ _ _) (World.shaped_of_ZipB (by kernel_rfl) (by kernel_rfl)) (by kernel_rfl) (by kernel_rfl) (by kernel_rfl) (by rw [MakeChecks.laidMetH_plain _ _ _ (by kernel_rfl)]; exact laidMet_laidAll _ (by kernel_rfl) (by kernel_rfl))) ?_
  intro W base args ds gs before hval0 hW hreach _ hL _
  have hval : ∀ (j : Nat) t v, Tryd.f4.params[j]? = some t → args[j]? = some v → Value.okWide Tryd.prog W .any base t v := hval0
  have hW' := hW
  obtain ⟨p, q, hA0, hV0, rfl, hfz, hnd⟩ := hW
  have hA : DataW.TrodAll enc Tryd.prog W 0 (fun _ => true) true Tryd.f4.params.toList args.toList ds p := hA0
  have hV : DataW.TrodVars enc Tryd.prog W (fun _ => true) ["loop.example/steerage/impl.verdictWords", "loop.example/steerage/impl.opWords"] gs q := hV0
  rw [Tryd.params4] at hA hval
  obtain ⟨v0, vs0, d0, ds0, p0, q0, hargs, rfl, rfl, h0, r0⟩ := trodAll_cons hA
  obtain ⟨rfl, rfl, rfl⟩ := trodAll_nil r0
  obtain rfl : args = #[v0] := by cases args; simp_all
  obtain ⟨g0, t0, cs0, f0, e0, pp0, g1, t1, cs1, f1, e1, pp1, rfl, hg0, ht0, hv0, hd0, hg1, ht1, hv1, hd1, rfl⟩ := trodVars_two hV
  obtain rfl := Option.some.inj (fnRulesGet_g7.symm.trans hg0)
  obtain rfl := Option.some.inj (fnRulesGet_t7.symm.trans ht0)
  obtain rfl := Option.some.inj (fnRulesGet_g6.symm.trans hg1)
  obtain rfl := Option.some.inj (fnRulesGet_t6.symm.trans ht1)
  have lg0 := fnRulesGet_lt hg0 hv0
  have lg1 := fnRulesGet_lt hg1 hv1
  have lv0 : ∀ x ∈ pp0, x.block < W.heap.size := DataW.trod_lt f0 _ _ _ hd0
  have lv1 : ∀ x ∈ pp1, x.block < W.heap.size := DataW.trod_lt f1 _ _ _ hd1
  have k0 := h0
  have lt0 : ∀ x ∈ p0, x.block < W.heap.size := by obtain ⟨m, hm⟩ := k0; exact DataW.trod_lt m _ _ _ hm
  obtain ⟨a0, len0, cap0, rfl, hc0, hl0, hs0⟩ := open_bytes (hval 0 22 v0 rfl rfl) h0
  clear hA0 hV0 hval0
  refine (law_rget a0 len0 cap0 W hc0 hs0 hl0 (fnRulesGet_tabs hL)).mono fun e W' ⟨he, bel⟩ => ?_
  subst he
  obtain ⟨f0', hd0'⟩ := Below.trod fnRulesGet_out (by kernel_rfl) (of_decide_eq_true (by kernel_rfl)) (v := .agg cs0) (⟨f0, by simpa [Value.cells] using hd0⟩ : DataW.Trod enc Tryd.prog W 0 (fun _ => true) true 55 (.agg cs0) e0 pp0) bel lv0
  obtain ⟨f1', hd1'⟩ := Below.trod fnRulesGet_out (by kernel_rfl) (of_decide_eq_true (by kernel_rfl)) (v := .agg cs1) (⟨f1, by simpa [Value.cells] using hd1⟩ : DataW.Trod enc Tryd.prog W 0 (fun _ => true) true 54 (.agg cs1) e1 pp1) bel lv1
  exact ⟨_, rfl, _, _, _, [], _, _, hW', trodAll_mk1 (shut_bool Tryd.underlying4 _), (trodAll_cons_mk (Below.trod fnRulesGet_out (by kernel_rfl) (of_decide_eq_true (by kernel_rfl)) k0 bel lt0) trodAll_mk0), ⟨_, _, _, f0', _, _, hg0, ht0, fnRulesGet_vb bel hg0 lg0 hv0, (by have := hd0'; simp only [Value.cells] at this; exact this), ⟨_, _, _, f1', _, _, hg1, ht1, fnRulesGet_vb bel hg1 lg1 hv1, (by have := hd1'; simp only [Value.cells] at this; exact this), rfl, rfl⟩, rfl⟩, bel.frame _, fun h => by cases h⟩

theorem fnRulesGet_said : Rows.FnRulesGetSaid :=
  OpenClaim.holds_of_wide 4 Tryd.f4 rfl rfl rfl rfl rfl rfl rfl ⟨rfl, rfl, rfl, rfl, rfl⟩ rfl rfl rfl rfl rfl (by kernel_rfl) Tryd.func4 (by kernel_rfl)
    (of_decide_eq_true (by kernel_rfl)) (by unfold Func.isWrapper; first | (rw [if_pos (by decide +kernel)]; kernel_rfl) | (rw [if_neg (by decide +kernel)]; exact ⟨rfl, rfl⟩))
    (fun os started H enc _ => fnRulesGet_lifted os started H enc)
/-- No parameter wants a stand-in. -/
theorem fnRulesGet_plain (f : FuncId) (fn : Func) (hf : Tryd.pinned.checked.prog.funcNamed "loop.example/steerage/laws.FnRulesGet" = some f) (hfn : Tryd.pinned.checked.prog.funcs[f]? = some fn) :
    true = Tryd.pinned.checked.prog.looks [] ∧ ∀ (j : Nat) t, fn.params[j]? = some t → Tryd.pinned.checked.prog.wantsStandIn t = false := by
  obtain rfl : f = 4 := Option.some.inj ((show Tryd.prog.funcNamed "loop.example/steerage/laws.FnRulesGet" = some 4 by kernel_rfl).symm.trans hf) |>.symm
  obtain rfl : fn = Tryd.f4 := (Option.some.inj (Tryd.func4.symm.trans hfn)).symm
  refine ⟨by kernel_rfl, fun j t ht => ?_⟩
  rw [Tryd.params4] at ht
  obtain rfl : t = 22 := by simpa using Array.mem_of_getElem? ht
  exact (show Tryd.prog.wantsStandIn 22 = false by kernel_rfl)
/-- The card. -/
theorem fnRulesGet_card : Rows.FnRulesGetCardSaid :=
  Claim7.holds_tied_plain_at .later [] _ _ _ _ fnRulesGet_said (fun _ h => by cases h) (by kernel_rfl) (fun _ h => by cases h) fnRulesGet_row_tie rfl ⟨rfl, rfl⟩ (by kernel_rfl) rfl fnRulesGet_plain (by kernel_rfl)
#print axioms fnRulesGet_card
end Go.Proofs.YtkaekiodjjhjkaaDoor
