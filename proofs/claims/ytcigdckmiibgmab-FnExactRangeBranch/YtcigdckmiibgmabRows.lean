/-
  No cell of these rows narrows 'for every input' (looked for: loops, veiled, ifaces, maps, wideKeys, modest, calm, conditions, laid).
  DERIVED. THE GIVEN ROWS OF THIS SEAT. 6 by the template 'for every input the law returns true; each argument reads behind the call as it read before'; 0 by the template 'total and deterministic' (their statements: YtcigdckmiibgmabTotals.lean).
  GIVEN WITH THE SEED: the statements are not yours to turn. If you find one false, say at which input.
  Laid BY PROGRAM, IN A SANDBOX (cutbox-rows.mjs): the forced cells as the released guide's own fill.sh prints them over the translation c217c079561d988b… (all of the seat's roots in one cut). By AI agents, Wed Nov 11 2026. No macro, syntax, notation, axiom, sorry.
-/
import Derived.Test.YtcigdckmiibgmabChecked
import GoSem.Claim
import GoSem.ClaimJoined
import GoSem.ClaimMapViews
import Derived.JoinedTies
import Derived.KernelRfl
namespace Go.Proofs.Ytcigdckmiibgmab
/- THE CELL 'sum', in the pinned program and in every row, IS THE sha256 OF THE DUMP (.gsa) THAT YtcigdckmiibgmabProg.lean LOADS. Nothing in Lean hashes anything: it is a label: what it is worth is what the hold of that sum in a sandbox is worth. -/
noncomputable def Try.pinned : Pinned := { name := "ytcigdckmiibgmab", sum := "c217c079561d988b600fca81e261caacca7700344f34afc9b2cc56311b0eaaf7", checked := Try.checked }
namespace Rows
def none {H : Type} : Left H := { results := [], args := [] }

/-- 'laws.FnExactRangeSome': WHATEVER THE INPUT: true; the input reads as it did. -/
def fnExactRangeSomeSpec : ChangeSpec := { name := "fnExactRangeSome", fn := fun _ => fun
  | [d] => { results := [.lit (.bool true)], args := [d] }
  | _ => none }
def fnExactRangeSomeRow : OpenClaim := { program := "ytcigdckmiibgmab", sum := "c217c079561d988b600fca81e261caacca7700344f34afc9b2cc56311b0eaaf7", func := "loop.example/steerage/laws.FnExactRangeSome", spec := "fnExactRangeSome", apart := false }
def FnExactRangeSomeSaid : Prop := fnExactRangeSomeRow.holds Try.pinned (OpenSpec.ofChange fnExactRangeSomeSpec)

/-- ITS FALSE NEIGHBOUR: 'it returns false'. Refute it at one input. -/
def fnExactRangeSomeWrong : ChangeSpec := { name := "fnExactRangeSome", fn := fun _ => fun
  | [d] => { results := [.lit (.bool false)], args := [d] }
  | _ => none }
def FnExactRangeSomeWrongFalsely : Prop := fnExactRangeSomeRow.holds Try.pinned (OpenSpec.ofChange fnExactRangeSomeWrong)

/-- 'laws.FnExactRangeLeast': WHATEVER THE INPUT: true; the input reads as it did. -/
def fnExactRangeLeastSpec : ChangeSpec := { name := "fnExactRangeLeast", fn := fun _ => fun
  | [d] => { results := [.lit (.bool true)], args := [d] }
  | _ => none }
def fnExactRangeLeastRow : OpenClaim := { program := "ytcigdckmiibgmab", sum := "c217c079561d988b600fca81e261caacca7700344f34afc9b2cc56311b0eaaf7", func := "loop.example/steerage/laws.FnExactRangeLeast", spec := "fnExactRangeLeast", apart := false }
def FnExactRangeLeastSaid : Prop := fnExactRangeLeastRow.holds Try.pinned (OpenSpec.ofChange fnExactRangeLeastSpec)

/-- ITS FALSE NEIGHBOUR: 'it returns false'. Refute it at one input. -/
def fnExactRangeLeastWrong : ChangeSpec := { name := "fnExactRangeLeast", fn := fun _ => fun
  | [d] => { results := [.lit (.bool false)], args := [d] }
  | _ => none }
def FnExactRangeLeastWrongFalsely : Prop := fnExactRangeLeastRow.holds Try.pinned (OpenSpec.ofChange fnExactRangeLeastWrong)

/-- 'laws.FnExactRangeMeet': WHATEVER THE INPUT: true; the input reads as it did. -/
def fnExactRangeMeetSpec : ChangeSpec := { name := "fnExactRangeMeet", fn := fun _ => fun
  | [d1, d2] => { results := [.lit (.bool true)], args := [d1, d2] }
  | _ => none }
def fnExactRangeMeetRow : OpenClaim := { program := "ytcigdckmiibgmab", sum := "c217c079561d988b600fca81e261caacca7700344f34afc9b2cc56311b0eaaf7", func := "loop.example/steerage/laws.FnExactRangeMeet", spec := "fnExactRangeMeet", apart := false }
def FnExactRangeMeetSaid : Prop := fnExactRangeMeetRow.holds Try.pinned (OpenSpec.ofChange fnExactRangeMeetSpec)

/-- ITS FALSE NEIGHBOUR: 'it returns false'. Refute it at one input. -/
def fnExactRangeMeetWrong : ChangeSpec := { name := "fnExactRangeMeet", fn := fun _ => fun
  | [d1, d2] => { results := [.lit (.bool false)], args := [d1, d2] }
  | _ => none }
def FnExactRangeMeetWrongFalsely : Prop := fnExactRangeMeetRow.holds Try.pinned (OpenSpec.ofChange fnExactRangeMeetWrong)

/-- 'laws.FnExactRangeJoin': WHATEVER THE INPUT: true; the input reads as it did. -/
def fnExactRangeJoinSpec : ChangeSpec := { name := "fnExactRangeJoin", fn := fun _ => fun
  | [d1, d2] => { results := [.lit (.bool true)], args := [d1, d2] }
  | _ => none }
def fnExactRangeJoinRow : OpenClaim := { program := "ytcigdckmiibgmab", sum := "c217c079561d988b600fca81e261caacca7700344f34afc9b2cc56311b0eaaf7", func := "loop.example/steerage/laws.FnExactRangeJoin", spec := "fnExactRangeJoin", apart := false }
def FnExactRangeJoinSaid : Prop := fnExactRangeJoinRow.holds Try.pinned (OpenSpec.ofChange fnExactRangeJoinSpec)

/-- ITS FALSE NEIGHBOUR: 'it returns false'. Refute it at one input. -/
def fnExactRangeJoinWrong : ChangeSpec := { name := "fnExactRangeJoin", fn := fun _ => fun
  | [d1, d2] => { results := [.lit (.bool false)], args := [d1, d2] }
  | _ => none }
def FnExactRangeJoinWrongFalsely : Prop := fnExactRangeJoinRow.holds Try.pinned (OpenSpec.ofChange fnExactRangeJoinWrong)

/-- 'laws.FnExactRangeIn': WHATEVER THE INPUT: true; the input reads as it did. -/
def fnExactRangeInSpec : ChangeSpec := { name := "fnExactRangeIn", fn := fun _ => fun
  | [d1, d2] => { results := [.lit (.bool true)], args := [d1, d2] }
  | _ => none }
def fnExactRangeInRow : OpenClaim := { program := "ytcigdckmiibgmab", sum := "c217c079561d988b600fca81e261caacca7700344f34afc9b2cc56311b0eaaf7", func := "loop.example/steerage/laws.FnExactRangeIn", spec := "fnExactRangeIn", apart := false }
def FnExactRangeInSaid : Prop := fnExactRangeInRow.holds Try.pinned (OpenSpec.ofChange fnExactRangeInSpec)

/-- ITS FALSE NEIGHBOUR: 'it returns false'. Refute it at one input. -/
def fnExactRangeInWrong : ChangeSpec := { name := "fnExactRangeIn", fn := fun _ => fun
  | [d1, d2] => { results := [.lit (.bool false)], args := [d1, d2] }
  | _ => none }
def FnExactRangeInWrongFalsely : Prop := fnExactRangeInRow.holds Try.pinned (OpenSpec.ofChange fnExactRangeInWrong)

/-- 'laws.FnExactRangeBranch': WHATEVER THE INPUT: true; the input reads as it did. -/
def fnExactRangeBranchSpec : ChangeSpec := { name := "fnExactRangeBranch", fn := fun _ => fun
  | [d1, d2, d3, d4] => { results := [.lit (.bool true)], args := [d1, d2, d3, d4] }
  | _ => none }
def fnExactRangeBranchRow : OpenClaim := { program := "ytcigdckmiibgmab", sum := "c217c079561d988b600fca81e261caacca7700344f34afc9b2cc56311b0eaaf7", func := "loop.example/steerage/laws.FnExactRangeBranch", spec := "fnExactRangeBranch", recurses := true, apart := false }
def FnExactRangeBranchSaid : Prop := fnExactRangeBranchRow.holds Try.pinned (OpenSpec.ofChange fnExactRangeBranchSpec)

/-- ITS FALSE NEIGHBOUR: 'it returns false'. Refute it at one input. -/
def fnExactRangeBranchWrong : ChangeSpec := { name := "fnExactRangeBranch", fn := fun _ => fun
  | [d1, d2, d3, d4] => { results := [.lit (.bool false)], args := [d1, d2, d3, d4] }
  | _ => none }
def FnExactRangeBranchWrongFalsely : Prop := fnExactRangeBranchRow.holds Try.pinned (OpenSpec.ofChange fnExactRangeBranchWrong)

/- THE SECOND FORM. 'bulk': how many values and letters a reading holds, each counted each time it is reached (what is shared counts as often as it is met; a slice's spare places count too). A statement '..UptoSaid' is the law's where the arguments, and the package variables that the reading takes, are together of bulk at most 1048576: NARROWER than '..Said'. Prove '..Said' where nothing that the law and all that it calls make is longer than what came in: it says more and counts as full. Else prove '..UptoSaid'. A law counts once. -/
mutual
def uptoBulk {H : Type} : DataW H → Nat
  | .lit (.string bytes) => bytes.length + 1
  | .lit _ => 1
  | .nil => 1
  | .ptr d => uptoBulk d + 1
  | .slice elems spare => uptoBulkAll elems + uptoBulkAll spare + 1
  | .agg parts => uptoBulkAll parts + 1
  | .iface _ d => uptoBulk d + 1
  | .map entries => uptoBulkEntries entries + 1
  | .held _ => 1
def uptoBulkAll {H : Type} : List (DataW H) → Nat
  | [] => 0
  | d :: r => uptoBulk d + uptoBulkAll r
def uptoBulkEntries {H : Type} : List (Lit × DataW H) → Nat
  | [] => 0
  | x :: r => uptoBulkEntry x + uptoBulkEntries r
def uptoBulkEntry {H : Type} : Lit × DataW H → Nat
  | (.string bytes, d) => bytes.length + uptoBulk d + 1
  | (_, d) => uptoBulk d + 1
 end
def uptoSmall : (H : Type) → List (DataW H) → Bool := fun _ ds => decide (uptoBulkAll ds ≤ 1048576)
def OpenSpec.upto (s : _root_.Go.ChangeSpec) : _root_.Go.OpenSpec := { _root_.Go.OpenSpec.ofChange s with cond := some uptoSmall }

/-- 'laws.FnExactRangeSome', WHERE WHAT IT READS IS OF BULK AT MOST 1048576: true; the input reads as it did. -/
def fnExactRangeSomeUptoRow : OpenClaim := { program := "ytcigdckmiibgmab", sum := "c217c079561d988b600fca81e261caacca7700344f34afc9b2cc56311b0eaaf7", func := "loop.example/steerage/laws.FnExactRangeSome", spec := "fnExactRangeSome", apart := false, narrowed := true }
def FnExactRangeSomeUptoSaid : Prop := fnExactRangeSomeUptoRow.holds Try.pinned (OpenSpec.upto fnExactRangeSomeSpec)

/-- 'laws.FnExactRangeLeast', WHERE WHAT IT READS IS OF BULK AT MOST 1048576: true; the input reads as it did. -/
def fnExactRangeLeastUptoRow : OpenClaim := { program := "ytcigdckmiibgmab", sum := "c217c079561d988b600fca81e261caacca7700344f34afc9b2cc56311b0eaaf7", func := "loop.example/steerage/laws.FnExactRangeLeast", spec := "fnExactRangeLeast", apart := false, narrowed := true }
def FnExactRangeLeastUptoSaid : Prop := fnExactRangeLeastUptoRow.holds Try.pinned (OpenSpec.upto fnExactRangeLeastSpec)

/-- 'laws.FnExactRangeMeet', WHERE WHAT IT READS IS OF BULK AT MOST 1048576: true; the input reads as it did. -/
def fnExactRangeMeetUptoRow : OpenClaim := { program := "ytcigdckmiibgmab", sum := "c217c079561d988b600fca81e261caacca7700344f34afc9b2cc56311b0eaaf7", func := "loop.example/steerage/laws.FnExactRangeMeet", spec := "fnExactRangeMeet", apart := false, narrowed := true }
def FnExactRangeMeetUptoSaid : Prop := fnExactRangeMeetUptoRow.holds Try.pinned (OpenSpec.upto fnExactRangeMeetSpec)

/-- 'laws.FnExactRangeJoin', WHERE WHAT IT READS IS OF BULK AT MOST 1048576: true; the input reads as it did. -/
def fnExactRangeJoinUptoRow : OpenClaim := { program := "ytcigdckmiibgmab", sum := "c217c079561d988b600fca81e261caacca7700344f34afc9b2cc56311b0eaaf7", func := "loop.example/steerage/laws.FnExactRangeJoin", spec := "fnExactRangeJoin", apart := false, narrowed := true }
def FnExactRangeJoinUptoSaid : Prop := fnExactRangeJoinUptoRow.holds Try.pinned (OpenSpec.upto fnExactRangeJoinSpec)

/-- 'laws.FnExactRangeIn', WHERE WHAT IT READS IS OF BULK AT MOST 1048576: true; the input reads as it did. -/
def fnExactRangeInUptoRow : OpenClaim := { program := "ytcigdckmiibgmab", sum := "c217c079561d988b600fca81e261caacca7700344f34afc9b2cc56311b0eaaf7", func := "loop.example/steerage/laws.FnExactRangeIn", spec := "fnExactRangeIn", apart := false, narrowed := true }
def FnExactRangeInUptoSaid : Prop := fnExactRangeInUptoRow.holds Try.pinned (OpenSpec.upto fnExactRangeInSpec)

/-- 'laws.FnExactRangeBranch', WHERE WHAT IT READS IS OF BULK AT MOST 1048576: true; the input reads as it did. -/
def fnExactRangeBranchUptoRow : OpenClaim := { program := "ytcigdckmiibgmab", sum := "c217c079561d988b600fca81e261caacca7700344f34afc9b2cc56311b0eaaf7", func := "loop.example/steerage/laws.FnExactRangeBranch", spec := "fnExactRangeBranch", recurses := true, apart := false, narrowed := true }
def FnExactRangeBranchUptoSaid : Prop := fnExactRangeBranchUptoRow.holds Try.pinned (OpenSpec.upto fnExactRangeBranchSpec)

end Rows
end Go.Proofs.Ytcigdckmiibgmab
