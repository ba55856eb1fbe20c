/- FnLineGet: at every argument; the tied card. -/
import Derived.Test.YtbbecofgmodfiaaGreatDoorFLY
import Derived.Test.YtbbecofgmodfiaaGreatDoorTie
import Derived.Test.YtbbecofgmodfiaaGreatDoorCards
import Derived.ProofKit
import Derived.OpenShut
import Derived.LaidMore
import Derived.ShutString
import Derived.ChangeOld
import Derived.Below
import Derived.Lib.LaidTab
import Derived.Stop.Joined
import Derived.SevenTiedAt
import Derived.Lay
namespace Go.Proofs.YtbbecofgmodfiaaGreatDoor
open Go.ChangeShapes Go.WideShapes Go.ChangeAt Go.RowKit
open Go.ChangeMaps (open_string shut_string)
set_option linter.unusedVariables false

theorem fnLineGet_own : ownKnob Tryz.prog.godebug = none := by kernel_rfl
theorem fnLineGet_out : laidOutB Tryz.prog = true := by kernel_rfl
theorem fnLineGet_lt {P : Program} {w : World} {n : String} {g : Nat} {cs : Array Value} (hg : P.globalNamed n = some g) (h : w.var? P n = some cs) : g < w.heap.size := by
  unfold World.var? at h
  rw [hg] at h
  simp only [Option.bind_some] at h
  rcases Nat.lt_or_ge g w.heap.size with hl | hl
  · exact hl
  · rw [Array.getElem?_eq_none hl] at h
    cases h
theorem fnLineGet_vb {P : Program} {B g : Nat} {W W' : World} {n : String} {cs : Array Value} (h : Below B W W') (hg : P.globalNamed n = some g) (hgB : g < B) (hv : W.var? P n = some cs) : W'.var? P n = some cs := by
  unfold World.var? at *
  rw [hg] at *
  simp only [Option.bind_some] at *
  rw [h.block g hgB]
  exact hv
/-- An array of texts that reads as these texts holds them. -/
theorem fnLineGet_strs {H : Type} {enc : TypeId × Value → H} {P : Program} {w : World} {base : Nat} {sp : Nat → Bool} {held : Bool} {fuel : Nat} {t e : TypeId} {n : Nat} {cs : List Value} {ss : List (List UInt8)} {p : List MemPlace}
    (ht : P.underlying t = some (.array n e)) (he : P.underlying e = some .string) (hce : P.cellsOf e = 1) (hct : P.cellsOf t = n)
    (h : DataW.trod enc P w base sp held fuel t cs = some (.agg (ss.map fun s => .lit (.string s)), p)) : cs = ss.map fun s => Value.string ⟨s.toArray⟩ := by
  cases fuel with
  | zero => simp [DataW.trod] at h
  | succ fuel =>
    simp only [DataW.trod, ht, hce, hct, Nat.mul_one] at h
    split at h
    · rename_i hl
      obtain ⟨xs, hm, hx⟩ := Option.map_eq_some_iff.1 h
      have hxs : xs.map (·.1) = ss.map fun s => (DataW.lit (.string s) : DataW H) := by
        have := congrArg Prod.fst hx
        simpa using this
      have hxl : xs.length = n := by simpa using Lib.mapM_length hm
      have hzl : ss.length = n := by
        have := congrArg List.length hxs
        simp at this
        omega
      apply List.ext_getElem?
      intro i
      by_cases hi : i < n
      · obtain ⟨b, hb, hf⟩ := Lib.mapM_at hm i i (by simp [hi])
        obtain ⟨z, hc, rfl, _⟩ := DataW.trod_string he hf
        have h1 : cs[i]? = some (.string z) := by
          have := congrArg (·[0]?) hc
          simpa [List.getElem?_take, List.getElem?_drop] using this
        have h2 : (xs.map (·.1))[i]? = some (DataW.lit (.string z.data.toList) : DataW H) := by simp [hb]
        rw [hxs] at h2
        simp only [List.getElem?_map, Option.map_eq_some_iff, DataW.lit.injEq, Lit.string.injEq] at h2
        obtain ⟨z', hz', rfl⟩ := h2
        simp [h1, hz']
      · rw [List.getElem?_eq_none (by omega), List.getElem?_eq_none (by simp; omega)]
    · cases h

theorem fnLineGet_g0 : Tryz.prog.globalNamed "math/bits.deBruijn32tab" = some 8 := by kernel_rfl
theorem fnLineGet_t0 : (Tryz.prog.globals[8]?).map (·.type) = some 124 := by kernel_rfl
theorem fnLineGet_g1 : Tryz.prog.globalNamed "math/bits.deBruijn64tab" = some 9 := by kernel_rfl
theorem fnLineGet_t1 : (Tryz.prog.globals[9]?).map (·.type) = some 125 := by kernel_rfl
theorem fnLineGet_g2 : Tryz.prog.globalNamed "internal/strconv.uint64pow10" = some 3 := by kernel_rfl
theorem fnLineGet_t2 : (Tryz.prog.globals[3]?).map (·.type) = some 101 := by kernel_rfl
theorem fnLineGet_g3 : Tryz.prog.globalNamed "unicode/utf8.acceptRanges" = some 5 := by kernel_rfl
theorem fnLineGet_t3 : (Tryz.prog.globals[5]?).map (·.type) = some 108 := by kernel_rfl
theorem fnLineGet_g4 : Tryz.prog.globalNamed "strconv.ErrRange" = some 7 := by kernel_rfl
theorem fnLineGet_t4 : (Tryz.prog.globals[7]?).map (·.type) = some 78 := by kernel_rfl
theorem fnLineGet_g5 : Tryz.prog.globalNamed "strconv.ErrSyntax" = some 6 := by kernel_rfl
theorem fnLineGet_t5 : (Tryz.prog.globals[6]?).map (·.type) = some 78 := by kernel_rfl
theorem fnLineGet_g6 : Tryz.prog.globalNamed "loop.example/steerage/impl.opWords" = some 0 := by kernel_rfl
theorem fnLineGet_t6 : (Tryz.prog.globals[0]?).map (·.type) = some 54 := by kernel_rfl
theorem fnLineGet_g7 : Tryz.prog.globalNamed "loop.example/steerage/impl.callWords" = some 1 := by kernel_rfl
theorem fnLineGet_t7 : (Tryz.prog.globals[1]?).map (·.type) = some 55 := by kernel_rfl
theorem fnLineGet_g8 : Tryz.prog.globalNamed "unicode/utf8.first" = some 4 := by kernel_rfl
theorem fnLineGet_t8 : (Tryz.prog.globals[4]?).map (·.type) = some 105 := by kernel_rfl

theorem fnLineGet_if {H : Type} {enc : TypeId × Value → H} {P : Program} {w : World} {base : Nat} {sp : Nat → Bool} {held : Bool} {fuel : Nat} {t : TypeId} {ms : Array (String × TypeId)} {cs : List Value} {x : DataW H × List MemPlace} (ht : P.underlying t = some (.interface ms))
    (h : DataW.trod enc P w base sp held fuel t cs = some x) : ∃ ev, cs = [ev] ∧ (ev = .nilIface ∨ ∃ te pe, ev = .iface te pe) := by
  cases fuel with
  | zero => simp [DataW.trod] at h
  | succ fuel =>
    rcases cs with _ | ⟨v, _ | ⟨v2, r⟩⟩
    · simp [DataW.trod, ht] at h
    · refine ⟨v, rfl, ?_⟩
      cases v <;> simp [DataW.trod, ht] at h ⊢
    · simp [DataW.trod, ht] at h
/-- What the row's list gives the walks. -/
theorem fnLineGet_tabs {W : World} (h : laidMetH Tryz.prog Rows.fnLineGetRow.laid W) : G.TabsG W := by
  rw [MakeChecks.laidMetH_plain _ _ _ (by kernel_rfl)] at h
  obtain ⟨ps, ⟨g0, t0, cs0, f0, p0, q0, hg0, ht0, hv0, hd0, ⟨g1, t1, cs1, f1, p1, q1, hg1, ht1, hv1, hd1, ⟨g2, t2, cs2, f2, p2, q2, hg2, ht2, hv2, hd2, ⟨g3, t3, cs3, f3, p3, q3, hg3, ht3, hv3, hd3, ⟨g4, t4, cs4, f4, p4, q4, hg4, ht4, hv4, hd4, ⟨g5, t5, cs5, f5, p5, q5, hg5, ht5, hv5, hd5, ⟨g6, t6, cs6, f6, p6, q6, hg6, ht6, hv6, hd6, ⟨g7, t7, cs7, f7, p7, q7, hg7, ht7, hv7, hd7, ⟨g8, t8, cs8, f8, p8, q8, hg8, ht8, hv8, hd8, _, _⟩, _⟩, _⟩, _⟩, _⟩, _⟩, _⟩, _⟩, _⟩, _, _⟩ := h
  obtain rfl := Option.some.inj (fnLineGet_g6.symm.trans hg6)
  obtain rfl := Option.some.inj (fnLineGet_t6.symm.trans ht6)
  obtain rfl := Option.some.inj (fnLineGet_g7.symm.trans hg7)
  obtain rfl := Option.some.inj (fnLineGet_t7.symm.trans ht7)
  have hsz : 10 ≤ W.heap.size := fnLineGet_lt (g := 9) (fnLineGet_g1) hv1
  obtain rfl := Option.some.inj (fnLineGet_g2.symm.trans hg2)
  obtain rfl := Option.some.inj (fnLineGet_t2.symm.trans ht2)
  have e1 : cs2.toList = Lib.pow10Tab.map fun z => Value.int .u64 z := Lib.cells_of_tab Tryz.underlying101 Tryz.underlying87 (by kernel_rfl) (by kernel_rfl) (show _ = some (Lib.tabData .u64 Lib.pow10Tab, p2) from hd2)
  have e2 : cs6.toList = (G.wordsL.map fun s => s.data.toList).map fun s => Value.string ⟨s.toArray⟩ := fnLineGet_strs Tryz.underlying54 Tryz.underlying9 (by kernel_rfl) (by kernel_rfl) (show _ = some (DataW.agg ((G.wordsL.map fun s => s.data.toList).map fun s => DataW.lit (Lit.string s)), p6) from hd6)
  have e3 : cs7.toList = (G.callsL.map fun s => s.data.toList).map fun s => Value.string ⟨s.toArray⟩ := fnLineGet_strs Tryz.underlying55 Tryz.underlying9 (by kernel_rfl) (by kernel_rfl) (show _ = some (DataW.agg ((G.callsL.map fun s => s.data.toList).map fun s => DataW.lit (Lit.string s)), p7) from hd7)
  obtain rfl := Option.some.inj (fnLineGet_g5.symm.trans hg5)
  obtain rfl := Option.some.inj (fnLineGet_t5.symm.trans ht5)
  have es : ∃ ev, W.cell? ⟨6, 0, none⟩ = some ev ∧ (ev = .nilIface ∨ ∃ te pe, ev = .iface te pe) := by
    obtain ⟨ev, hcs, hev⟩ := fnLineGet_if Tryz.underlying78 hd5
    refine ⟨ev, ?_, hev⟩
    rw [World.var?_cell fnLineGet_g5 hv5 0, ← Array.getElem?_toList, hcs]
    rfl
  obtain rfl := Option.some.inj (fnLineGet_g4.symm.trans hg4)
  obtain rfl := Option.some.inj (fnLineGet_t4.symm.trans ht4)
  have er : ∃ ev, W.cell? ⟨7, 0, none⟩ = some ev ∧ (ev = .nilIface ∨ ∃ te pe, ev = .iface te pe) := by
    obtain ⟨ev, hcs, hev⟩ := fnLineGet_if Tryz.underlying78 hd4
    refine ⟨ev, ?_, hev⟩
    rw [World.var?_cell fnLineGet_g4 hv4 0, ← Array.getElem?_toList, hcs]
    rfl
  refine ⟨⟨?_, fun k hk => ?_, fun k hk => ?_, hsz⟩, es, er⟩
  · unfold Lib.TabIs
    rw [hv2, ← e1]
  · have := World.var?_cell fnLineGet_g6 hv6 k
    rw [this, ← Array.getElem?_toList, e2]
    have hl : k < G.wordsL.length := hk
    simp [List.getD, hl]
  · have := World.var?_cell fnLineGet_g7 hv7 k
    rw [this, ← Array.getElem?_toList, e3]
    have hl : k < G.callsL.length := hk
    simp [List.getD, hl]

set_option maxRecDepth 100000 in
theorem fnLineGet_lifted (os : Os) (started : os.Started) (H : Type) (enc : TypeId × Value → H) :
    ReturnsInHanded {} Tryz.checked os 4 .any (fun w args => (Rows.fnLineGetSpec.pre enc Tryz.prog Tryz.f4 [] false w args ∧ laidMetH Tryz.prog Rows.fnLineGetRow.laid w) ∧ sizedMet enc Tryz.prog Tryz.f4 (OpenSpec.ofChange Rows.fnLineGetSpec) false w args)
      (Rows.fnLineGetSpec.post enc Tryz.prog Tryz.f4 false true false false) := by
  refine returnsInHanded_of_change_and (C := Tryz.checked) (X := fun w _ => laidMetH Tryz.prog Rows.fnLineGetRow.laid w) (fun _ _ _ hh h => h.of_heap hh) fnLineGet_own started (by kernel_rfl) Tryz.func4
    (ChangeSpec.witness_shaped (enc := enc) (C := Tryz.checked) (os := os) (X := fun w _ => laidMetH Tryz.prog Rows.fnLineGetRow.laid w) false (World.laidAll Tryz.prog os Rows.fnLineGetRow.laid) #[.slice none 0 0] 8 (World.laidAll_os _ _ _) (World.shaped_of_ZipB (by kernel_rfl) (by kernel_rfl)) (by kernel_rfl) (by kernel_rfl) (by kernel_rfl) (by rw [MakeChecks.laidMetH_plain _ _ _ (by kernel_rfl)]; exact laidMet_laidAll _ (by kernel_rfl) (by kernel_rfl))) ?_
  intro W base args ds gs before hval0 hW hreach _ hL _
  have hval : ∀ (j : Nat) t v, Tryz.f4.params[j]? = some t → args[j]? = some v → Value.okWide Tryz.prog W .any base t v := hval0
  have hW' := hW
  obtain ⟨p, q, hA0, hV0, rfl, hfz, hnd⟩ := hW
  have hA : DataW.TrodAll enc Tryz.prog W 0 (fun _ => true) true Tryz.f4.params.toList args.toList ds p := hA0
  have hV : DataW.TrodVars enc Tryz.prog W (fun _ => true) ["loop.example/steerage/impl.opWords", "loop.example/steerage/impl.callWords"] gs q := hV0
  rw [Tryz.params4] at hA hval
  obtain ⟨v0, vs0, d0, ds0, p0, q0, hargs, rfl, rfl, h0, r0⟩ := trodAll_cons hA
  obtain ⟨rfl, rfl, rfl⟩ := trodAll_nil r0
  obtain rfl : args = #[v0] := by cases args; simp_all
  obtain ⟨g0, t0, cs0, f0, e0, pp0, g1, t1, cs1, f1, e1, pp1, rfl, hg0, ht0, hv0, hd0, hg1, ht1, hv1, hd1, rfl⟩ := trodVars_two hV
  obtain rfl := Option.some.inj (fnLineGet_g6.symm.trans hg0)
  obtain rfl := Option.some.inj (fnLineGet_t6.symm.trans ht0)
  obtain rfl := Option.some.inj (fnLineGet_g7.symm.trans hg1)
  obtain rfl := Option.some.inj (fnLineGet_t7.symm.trans ht1)
  have lg0 := fnLineGet_lt hg0 hv0
  have lg1 := fnLineGet_lt hg1 hv1
  have lv0 : ∀ x ∈ pp0, x.block < W.heap.size := DataW.trod_lt f0 _ _ _ hd0
  have lv1 : ∀ x ∈ pp1, x.block < W.heap.size := DataW.trod_lt f1 _ _ _ hd1
  have k0 := h0
  have lt0 : ∀ x ∈ p0, x.block < W.heap.size := by obtain ⟨m, hm⟩ := k0; exact DataW.trod_lt m _ _ _ hm
  obtain ⟨a0, len0, cap0, rfl, hc0, hl0, hs0⟩ := open_bytes (hval 0 22 v0 rfl rfl) h0
  clear hA0 hV0 hval0
  refine (law_fnLineGet W a0 len0 cap0 hc0 hs0 hl0 (fnLineGet_tabs hL)).mono fun e W' ⟨he, bel⟩ => ?_
  subst he
  obtain ⟨f0', hd0'⟩ := Below.trod fnLineGet_out (by kernel_rfl) (of_decide_eq_true (by kernel_rfl)) (v := .agg cs0) (⟨f0, by simpa [Value.cells] using hd0⟩ : DataW.Trod enc Tryz.prog W 0 (fun _ => true) true 54 (.agg cs0) e0 pp0) bel lv0
  obtain ⟨f1', hd1'⟩ := Below.trod fnLineGet_out (by kernel_rfl) (of_decide_eq_true (by kernel_rfl)) (v := .agg cs1) (⟨f1, by simpa [Value.cells] using hd1⟩ : DataW.Trod enc Tryz.prog W 0 (fun _ => true) true 55 (.agg cs1) e1 pp1) bel lv1
  exact ⟨_, rfl, _, _, _, [], _, _, hW', trodAll_mk1 (shut_bool Tryz.underlying4 _), (trodAll_cons_mk (Below.trod fnLineGet_out (by kernel_rfl) (of_decide_eq_true (by kernel_rfl)) k0 bel lt0) trodAll_mk0), ⟨_, _, _, f0', _, _, hg0, ht0, fnLineGet_vb bel hg0 lg0 hv0, (by have := hd0'; simp only [Value.cells] at this; exact this), ⟨_, _, _, f1', _, _, hg1, ht1, fnLineGet_vb bel hg1 lg1 hv1, (by have := hd1'; simp only [Value.cells] at this; exact this), rfl, rfl⟩, rfl⟩, bel.frame _, fun h => by cases h⟩

theorem fnLineGet_said : Rows.FnLineGetSaid :=
  OpenClaim.holds_of_wide 4 Tryz.f4 rfl rfl rfl rfl rfl rfl rfl ⟨rfl, rfl, rfl, rfl, rfl⟩ rfl rfl rfl rfl rfl (by kernel_rfl) Tryz.func4 (by kernel_rfl)
    (of_decide_eq_true (by kernel_rfl)) (by unfold Func.isWrapper; first | (rw [if_pos (by decide +kernel)]; kernel_rfl) | (rw [if_neg (by decide +kernel)]; exact ⟨rfl, rfl⟩))
    (fun os started H enc _ => fnLineGet_lifted os started H enc)
/-- No parameter wants a stand-in. -/
theorem fnLineGet_plain (f : FuncId) (fn : Func) (hf : Tryz.pinned.checked.prog.funcNamed "loop.example/steerage/laws.FnLineGet" = some f) (hfn : Tryz.pinned.checked.prog.funcs[f]? = some fn) :
    true = Tryz.pinned.checked.prog.looks [] ∧ ∀ (j : Nat) t, fn.params[j]? = some t → Tryz.pinned.checked.prog.wantsStandIn t = false := by
  obtain rfl : f = 4 := Option.some.inj ((show Tryz.prog.funcNamed "loop.example/steerage/laws.FnLineGet" = some 4 by kernel_rfl).symm.trans hf) |>.symm
  obtain rfl : fn = Tryz.f4 := (Option.some.inj (Tryz.func4.symm.trans hfn)).symm
  refine ⟨by kernel_rfl, fun j t ht => ?_⟩
  rw [Tryz.params4] at ht
  obtain rfl : t = 22 := by simpa using Array.mem_of_getElem? ht
  exact (show Tryz.prog.wantsStandIn 22 = false by kernel_rfl)
/-- The card. -/
theorem fnLineGet_card : Rows.FnLineGetCardSaid :=
  Claim7.holds_tied_plain_at .later [] _ _ _ _ fnLineGet_said (fun _ h => by cases h) (by kernel_rfl) (fun _ h => by cases h) fnLineGet_row_tie rfl ⟨rfl, rfl⟩ (by kernel_rfl) rfl fnLineGet_plain (by kernel_rfl)
#print axioms fnLineGet_card
end Go.Proofs.YtbbecofgmodfiaaGreatDoor
