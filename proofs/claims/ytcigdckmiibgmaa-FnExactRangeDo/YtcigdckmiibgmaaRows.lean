/-
  No cell of these rows narrows 'for every input' (looked for: loops, veiled, ifaces, maps, wideKeys, modest, calm, conditions, laid).
  DERIVED. THE GIVEN ROWS OF THIS SEAT. 6 by the template 'for every input the law returns true; each argument reads behind the call as it read before'; 0 by the template 'total and deterministic' (their statements: YtcigdckmiibgmaaTotals.lean).
  GIVEN WITH THE SEED: the statements are not yours to turn. If you find one false, say at which input.
  Laid BY PROGRAM, IN A SANDBOX (cutbox-rows.mjs): the forced cells as the released guide's own fill.sh prints them over the translation 5a4d81b46bf68e76… (all of the seat's roots in one cut). By AI agents, Wed Nov 11 2026. No macro, syntax, notation, axiom, sorry.
-/
import Derived.Test.YtcigdckmiibgmaaChecked
import GoSem.Claim
import GoSem.ClaimJoined
import GoSem.ClaimMapViews
import Derived.JoinedTies
import Derived.KernelRfl
namespace Go.Proofs.Ytcigdckmiibgmaa
/- THE CELL 'sum', in the pinned program and in every row, IS THE sha256 OF THE DUMP (.gsa) THAT YtcigdckmiibgmaaProg.lean LOADS. Nothing in Lean hashes anything: it is a label: what it is worth is what the hold of that sum in a sandbox is worth. -/
noncomputable def Try.pinned : Pinned := { name := "ytcigdckmiibgmaa", sum := "5a4d81b46bf68e7613a21f18ef18535808f20a258e93e3761f3b133c4b3b08ac", checked := Try.checked }
namespace Rows
def none {H : Type} : Left H := { results := [], args := [] }

/-- 'laws.FnExactRangeDo': WHATEVER THE INPUT: true; the input reads as it did. -/
def fnExactRangeDoSpec : ChangeSpec := { name := "fnExactRangeDo", fn := fun _ => fun
  | [d1, d2, d3] => { results := [.lit (.bool true)], args := [d1, d2, d3] }
  | _ => none }
def fnExactRangeDoRow : OpenClaim := { program := "ytcigdckmiibgmaa", sum := "5a4d81b46bf68e7613a21f18ef18535808f20a258e93e3761f3b133c4b3b08ac", func := "loop.example/steerage/laws.FnExactRangeDo", spec := "fnExactRangeDo", unfollowed := true, recurses := true, apart := false }
def FnExactRangeDoSaid : Prop := fnExactRangeDoRow.holds Try.pinned (OpenSpec.ofChange fnExactRangeDoSpec)

/-- ITS FALSE NEIGHBOUR: 'it returns false'. Refute it at one input. -/
def fnExactRangeDoWrong : ChangeSpec := { name := "fnExactRangeDo", fn := fun _ => fun
  | [d1, d2, d3] => { results := [.lit (.bool false)], args := [d1, d2, d3] }
  | _ => none }
def FnExactRangeDoWrongFalsely : Prop := fnExactRangeDoRow.holds Try.pinned (OpenSpec.ofChange fnExactRangeDoWrong)

/-- 'laws.FnExactRangeHolds': WHATEVER THE INPUT: true; the input reads as it did. -/
def fnExactRangeHoldsSpec : ChangeSpec := { name := "fnExactRangeHolds", fn := fun _ => fun
  | [d1, d2, d3] => { results := [.lit (.bool true)], args := [d1, d2, d3] }
  | _ => none }
def fnExactRangeHoldsRow : OpenClaim := { program := "ytcigdckmiibgmaa", sum := "5a4d81b46bf68e7613a21f18ef18535808f20a258e93e3761f3b133c4b3b08ac", func := "loop.example/steerage/laws.FnExactRangeHolds", spec := "fnExactRangeHolds", unfollowed := true, recurses := true, apart := false }
def FnExactRangeHoldsSaid : Prop := fnExactRangeHoldsRow.holds Try.pinned (OpenSpec.ofChange fnExactRangeHoldsSpec)

/-- ITS FALSE NEIGHBOUR: 'it returns false'. Refute it at one input. -/
def fnExactRangeHoldsWrong : ChangeSpec := { name := "fnExactRangeHolds", fn := fun _ => fun
  | [d1, d2, d3] => { results := [.lit (.bool false)], args := [d1, d2, d3] }
  | _ => none }
def FnExactRangeHoldsWrongFalsely : Prop := fnExactRangeHoldsRow.holds Try.pinned (OpenSpec.ofChange fnExactRangeHoldsWrong)

/-- 'laws.FnExactRangeOk': WHATEVER THE INPUT: true; the input reads as it did. -/
def fnExactRangeOkSpec : ChangeSpec := { name := "fnExactRangeOk", fn := fun _ => fun
  | [d] => { results := [.lit (.bool true)], args := [d] }
  | _ => none }
def fnExactRangeOkRow : OpenClaim := { program := "ytcigdckmiibgmaa", sum := "5a4d81b46bf68e7613a21f18ef18535808f20a258e93e3761f3b133c4b3b08ac", func := "loop.example/steerage/laws.FnExactRangeOk", spec := "fnExactRangeOk", apart := false }
def FnExactRangeOkSaid : Prop := fnExactRangeOkRow.holds Try.pinned (OpenSpec.ofChange fnExactRangeOkSpec)

/-- ITS FALSE NEIGHBOUR: 'it returns false'. Refute it at one input. -/
def fnExactRangeOkWrong : ChangeSpec := { name := "fnExactRangeOk", fn := fun _ => fun
  | [d] => { results := [.lit (.bool false)], args := [d] }
  | _ => none }
def FnExactRangeOkWrongFalsely : Prop := fnExactRangeOkRow.holds Try.pinned (OpenSpec.ofChange fnExactRangeOkWrong)

/-- 'laws.FnExactRangeHas': WHATEVER THE INPUT: true; the input reads as it did. -/
def fnExactRangeHasSpec : ChangeSpec := { name := "fnExactRangeHas", fn := fun _ => fun
  | [d1, d2] => { results := [.lit (.bool true)], args := [d1, d2] }
  | _ => none }
def fnExactRangeHasRow : OpenClaim := { program := "ytcigdckmiibgmaa", sum := "5a4d81b46bf68e7613a21f18ef18535808f20a258e93e3761f3b133c4b3b08ac", func := "loop.example/steerage/laws.FnExactRangeHas", spec := "fnExactRangeHas", apart := false }
def FnExactRangeHasSaid : Prop := fnExactRangeHasRow.holds Try.pinned (OpenSpec.ofChange fnExactRangeHasSpec)

/-- ITS FALSE NEIGHBOUR: 'it returns false'. Refute it at one input. -/
def fnExactRangeHasWrong : ChangeSpec := { name := "fnExactRangeHas", fn := fun _ => fun
  | [d1, d2] => { results := [.lit (.bool false)], args := [d1, d2] }
  | _ => none }
def FnExactRangeHasWrongFalsely : Prop := fnExactRangeHasRow.holds Try.pinned (OpenSpec.ofChange fnExactRangeHasWrong)

/-- 'laws.FnExactRangeOne': WHATEVER THE INPUT: true; the input reads as it did. -/
def fnExactRangeOneSpec : ChangeSpec := { name := "fnExactRangeOne", fn := fun _ => fun
  | [d] => { results := [.lit (.bool true)], args := [d] }
  | _ => none }
def fnExactRangeOneRow : OpenClaim := { program := "ytcigdckmiibgmaa", sum := "5a4d81b46bf68e7613a21f18ef18535808f20a258e93e3761f3b133c4b3b08ac", func := "loop.example/steerage/laws.FnExactRangeOne", spec := "fnExactRangeOne", apart := false }
def FnExactRangeOneSaid : Prop := fnExactRangeOneRow.holds Try.pinned (OpenSpec.ofChange fnExactRangeOneSpec)

/-- ITS FALSE NEIGHBOUR: 'it returns false'. Refute it at one input. -/
def fnExactRangeOneWrong : ChangeSpec := { name := "fnExactRangeOne", fn := fun _ => fun
  | [d] => { results := [.lit (.bool false)], args := [d] }
  | _ => none }
def FnExactRangeOneWrongFalsely : Prop := fnExactRangeOneRow.holds Try.pinned (OpenSpec.ofChange fnExactRangeOneWrong)

/-- 'laws.FnExactRangeTidy': WHATEVER THE INPUT: true; the input reads as it did. -/
def fnExactRangeTidySpec : ChangeSpec := { name := "fnExactRangeTidy", fn := fun _ => fun
  | [d] => { results := [.lit (.bool true)], args := [d] }
  | _ => none }
def fnExactRangeTidyRow : OpenClaim := { program := "ytcigdckmiibgmaa", sum := "5a4d81b46bf68e7613a21f18ef18535808f20a258e93e3761f3b133c4b3b08ac", func := "loop.example/steerage/laws.FnExactRangeTidy", spec := "fnExactRangeTidy", apart := false }
def FnExactRangeTidySaid : Prop := fnExactRangeTidyRow.holds Try.pinned (OpenSpec.ofChange fnExactRangeTidySpec)

/-- ITS FALSE NEIGHBOUR: 'it returns false'. Refute it at one input. -/
def fnExactRangeTidyWrong : ChangeSpec := { name := "fnExactRangeTidy", fn := fun _ => fun
  | [d] => { results := [.lit (.bool false)], args := [d] }
  | _ => none }
def FnExactRangeTidyWrongFalsely : Prop := fnExactRangeTidyRow.holds Try.pinned (OpenSpec.ofChange fnExactRangeTidyWrong)

/- THE SECOND FORM. 'bulk': how many values and letters a reading holds, each counted each time it is reached (what is shared counts as often as it is met; a slice's spare places count too). A statement '..UptoSaid' is the law's where the arguments, and the package variables that the reading takes, are together of bulk at most 1048576: NARROWER than '..Said'. Prove '..Said' where nothing that the law and all that it calls make is longer than what came in: it says more and counts as full. Else prove '..UptoSaid'. A law counts once. -/
mutual
def uptoBulk {H : Type} : DataW H → Nat
  | .lit (.string bytes) => bytes.length + 1
  | .lit _ => 1
  | .nil => 1
  | .ptr d => uptoBulk d + 1
  | .slice elems spare => uptoBulkAll elems + uptoBulkAll spare + 1
  | .agg parts => uptoBulkAll parts + 1
  | .iface _ d => uptoBulk d + 1
  | .map entries => uptoBulkEntries entries + 1
  | .held _ => 1
def uptoBulkAll {H : Type} : List (DataW H) → Nat
  | [] => 0
  | d :: r => uptoBulk d + uptoBulkAll r
def uptoBulkEntries {H : Type} : List (Lit × DataW H) → Nat
  | [] => 0
  | x :: r => uptoBulkEntry x + uptoBulkEntries r
def uptoBulkEntry {H : Type} : Lit × DataW H → Nat
  | (.string bytes, d) => bytes.length + uptoBulk d + 1
  | (_, d) => uptoBulk d + 1
 end
def uptoSmall : (H : Type) → List (DataW H) → Bool := fun _ ds => decide (uptoBulkAll ds ≤ 1048576)
def OpenSpec.upto (s : _root_.Go.ChangeSpec) : _root_.Go.OpenSpec := { _root_.Go.OpenSpec.ofChange s with cond := some uptoSmall }

/-- 'laws.FnExactRangeDo', WHERE WHAT IT READS IS OF BULK AT MOST 1048576: true; the input reads as it did. -/
def fnExactRangeDoUptoRow : OpenClaim := { program := "ytcigdckmiibgmaa", sum := "5a4d81b46bf68e7613a21f18ef18535808f20a258e93e3761f3b133c4b3b08ac", func := "loop.example/steerage/laws.FnExactRangeDo", spec := "fnExactRangeDo", unfollowed := true, recurses := true, apart := false, narrowed := true }
def FnExactRangeDoUptoSaid : Prop := fnExactRangeDoUptoRow.holds Try.pinned (OpenSpec.upto fnExactRangeDoSpec)

/-- 'laws.FnExactRangeHolds', WHERE WHAT IT READS IS OF BULK AT MOST 1048576: true; the input reads as it did. -/
def fnExactRangeHoldsUptoRow : OpenClaim := { program := "ytcigdckmiibgmaa", sum := "5a4d81b46bf68e7613a21f18ef18535808f20a258e93e3761f3b133c4b3b08ac", func := "loop.example/steerage/laws.FnExactRangeHolds", spec := "fnExactRangeHolds", unfollowed := true, recurses := true, apart := false, narrowed := true }
def FnExactRangeHoldsUptoSaid : Prop := fnExactRangeHoldsUptoRow.holds Try.pinned (OpenSpec.upto fnExactRangeHoldsSpec)

/-- 'laws.FnExactRangeOk', WHERE WHAT IT READS IS OF BULK AT MOST 1048576: true; the input reads as it did. -/
def fnExactRangeOkUptoRow : OpenClaim := { program := "ytcigdckmiibgmaa", sum := "5a4d81b46bf68e7613a21f18ef18535808f20a258e93e3761f3b133c4b3b08ac", func := "loop.example/steerage/laws.FnExactRangeOk", spec := "fnExactRangeOk", apart := false, narrowed := true }
def FnExactRangeOkUptoSaid : Prop := fnExactRangeOkUptoRow.holds Try.pinned (OpenSpec.upto fnExactRangeOkSpec)

/-- 'laws.FnExactRangeHas', WHERE WHAT IT READS IS OF BULK AT MOST 1048576: true; the input reads as it did. -/
def fnExactRangeHasUptoRow : OpenClaim := { program := "ytcigdckmiibgmaa", sum := "5a4d81b46bf68e7613a21f18ef18535808f20a258e93e3761f3b133c4b3b08ac", func := "loop.example/steerage/laws.FnExactRangeHas", spec := "fnExactRangeHas", apart := false, narrowed := true }
def FnExactRangeHasUptoSaid : Prop := fnExactRangeHasUptoRow.holds Try.pinned (OpenSpec.upto fnExactRangeHasSpec)

/-- 'laws.FnExactRangeOne', WHERE WHAT IT READS IS OF BULK AT MOST 1048576: true; the input reads as it did. -/
def fnExactRangeOneUptoRow : OpenClaim := { program := "ytcigdckmiibgmaa", sum := "5a4d81b46bf68e7613a21f18ef18535808f20a258e93e3761f3b133c4b3b08ac", func := "loop.example/steerage/laws.FnExactRangeOne", spec := "fnExactRangeOne", apart := false, narrowed := true }
def FnExactRangeOneUptoSaid : Prop := fnExactRangeOneUptoRow.holds Try.pinned (OpenSpec.upto fnExactRangeOneSpec)

/-- 'laws.FnExactRangeTidy', WHERE WHAT IT READS IS OF BULK AT MOST 1048576: true; the input reads as it did. -/
def fnExactRangeTidyUptoRow : OpenClaim := { program := "ytcigdckmiibgmaa", sum := "5a4d81b46bf68e7613a21f18ef18535808f20a258e93e3761f3b133c4b3b08ac", func := "loop.example/steerage/laws.FnExactRangeTidy", spec := "fnExactRangeTidy", apart := false, narrowed := true }
def FnExactRangeTidyUptoSaid : Prop := fnExactRangeTidyUptoRow.holds Try.pinned (OpenSpec.upto fnExactRangeTidySpec)

end Rows
end Go.Proofs.Ytcigdckmiibgmaa
