/-
  No cell of these rows narrows 'for every input' (looked for: loops, veiled, ifaces, maps, wideKeys, modest, calm, conditions, laid).
  DERIVED. THE GIVEN ROWS OF THIS SEAT. 4 by the template 'for every input the law returns true; each argument reads behind the call as it read before'; 0 by the template 'total and deterministic' (their statements: YtgdefengkacnfaaTotals.lean).
  GIVEN WITH THE SEED: the statements are not yours to turn. If you find one false, say at which input.
  Laid BY PROGRAM, IN A SANDBOX (cutbox-rows.mjs): the forced cells as the released guide's own fill.sh prints them over the translation b18fa124db4eeee0… (all of the seat's roots in one cut). By AI agents, Wed Nov 11 2026. No macro, syntax, notation, axiom, sorry.
-/
import Derived.Test.YtgdefengkacnfaaChecked
import GoSem.Claim
import GoSem.ClaimJoined
import GoSem.ClaimMapViews
import Derived.JoinedTies
import Derived.KernelRfl
namespace Go.Proofs.Ytgdefengkacnfaa
/- THE CELL 'sum', in the pinned program and in every row, IS THE sha256 OF THE DUMP (.gsa) THAT YtgdefengkacnfaaProg.lean LOADS. Nothing in Lean hashes anything: it is a label: what it is worth is what the hold of that sum in a sandbox is worth. -/
noncomputable def Try.pinned : Pinned := { name := "ytgdefengkacnfaa", sum := "b18fa124db4eeee08a7966ed05d9f5d2d236075b65e4e24b6a09f8e440f1c13b", checked := Try.checked }
namespace Rows
def none {H : Type} : Left H := { results := [], args := [] }

/-- 'laws.FnFramePut': WHATEVER THE INPUT: true; the input reads as it did. -/
def fnFramePutSpec : ChangeSpec := { name := "fnFramePut", fn := fun _ => fun
  | [d] => { results := [.lit (.bool true)], args := [d] }
  | _ => none }
def fnFramePutRow : OpenClaim := { program := "ytgdefengkacnfaa", sum := "b18fa124db4eeee08a7966ed05d9f5d2d236075b65e4e24b6a09f8e440f1c13b", func := "loop.example/steerage/laws.FnFramePut", spec := "fnFramePut", apart := false }
def FnFramePutSaid : Prop := fnFramePutRow.holds Try.pinned (OpenSpec.ofChange fnFramePutSpec)

/-- ITS FALSE NEIGHBOUR: 'it returns false'. Refute it at one input. -/
def fnFramePutWrong : ChangeSpec := { name := "fnFramePut", fn := fun _ => fun
  | [d] => { results := [.lit (.bool false)], args := [d] }
  | _ => none }
def FnFramePutWrongFalsely : Prop := fnFramePutRow.holds Try.pinned (OpenSpec.ofChange fnFramePutWrong)

/-- 'laws.FnFrameCut': WHATEVER THE INPUT: true; the input reads as it did. -/
def fnFrameCutSpec : ChangeSpec := { name := "fnFrameCut", fn := fun _ => fun
  | [d1, d2] => { results := [.lit (.bool true)], args := [d1, d2] }
  | _ => none }
def fnFrameCutRow : OpenClaim := { program := "ytgdefengkacnfaa", sum := "b18fa124db4eeee08a7966ed05d9f5d2d236075b65e4e24b6a09f8e440f1c13b", func := "loop.example/steerage/laws.FnFrameCut", spec := "fnFrameCut", apart := false }
def FnFrameCutSaid : Prop := fnFrameCutRow.holds Try.pinned (OpenSpec.ofChange fnFrameCutSpec)

/-- ITS FALSE NEIGHBOUR: 'it returns false'. Refute it at one input. -/
def fnFrameCutWrong : ChangeSpec := { name := "fnFrameCut", fn := fun _ => fun
  | [d1, d2] => { results := [.lit (.bool false)], args := [d1, d2] }
  | _ => none }
def FnFrameCutWrongFalsely : Prop := fnFrameCutRow.holds Try.pinned (OpenSpec.ofChange fnFrameCutWrong)

/-- 'laws.FnExactFrameCut': WHATEVER THE INPUT: true; the input reads as it did. -/
def fnExactFrameCutSpec : ChangeSpec := { name := "fnExactFrameCut", fn := fun _ => fun
  | [d] => { results := [.lit (.bool true)], args := [d] }
  | _ => none }
def fnExactFrameCutRow : OpenClaim := { program := "ytgdefengkacnfaa", sum := "b18fa124db4eeee08a7966ed05d9f5d2d236075b65e4e24b6a09f8e440f1c13b", func := "loop.example/steerage/laws.FnExactFrameCut", spec := "fnExactFrameCut", apart := false }
def FnExactFrameCutSaid : Prop := fnExactFrameCutRow.holds Try.pinned (OpenSpec.ofChange fnExactFrameCutSpec)

/-- ITS FALSE NEIGHBOUR: 'it returns false'. Refute it at one input. -/
def fnExactFrameCutWrong : ChangeSpec := { name := "fnExactFrameCut", fn := fun _ => fun
  | [d] => { results := [.lit (.bool false)], args := [d] }
  | _ => none }
def FnExactFrameCutWrongFalsely : Prop := fnExactFrameCutRow.holds Try.pinned (OpenSpec.ofChange fnExactFrameCutWrong)

/-- 'laws.FnExactFramePut': WHATEVER THE INPUT: true; the input reads as it did. -/
def fnExactFramePutSpec : ChangeSpec := { name := "fnExactFramePut", fn := fun _ => fun
  | [d] => { results := [.lit (.bool true)], args := [d] }
  | _ => none }
def fnExactFramePutRow : OpenClaim := { program := "ytgdefengkacnfaa", sum := "b18fa124db4eeee08a7966ed05d9f5d2d236075b65e4e24b6a09f8e440f1c13b", func := "loop.example/steerage/laws.FnExactFramePut", spec := "fnExactFramePut", apart := false }
def FnExactFramePutSaid : Prop := fnExactFramePutRow.holds Try.pinned (OpenSpec.ofChange fnExactFramePutSpec)

/-- ITS FALSE NEIGHBOUR: 'it returns false'. Refute it at one input. -/
def fnExactFramePutWrong : ChangeSpec := { name := "fnExactFramePut", fn := fun _ => fun
  | [d] => { results := [.lit (.bool false)], args := [d] }
  | _ => none }
def FnExactFramePutWrongFalsely : Prop := fnExactFramePutRow.holds Try.pinned (OpenSpec.ofChange fnExactFramePutWrong)

/- THE SECOND FORM. 'bulk': how many values and letters a reading holds, each counted each time it is reached (what is shared counts as often as it is met; a slice's spare places count too). A statement '..UptoSaid' is the law's where the arguments, and the package variables that the reading takes, are together of bulk at most 1048576: NARROWER than '..Said'. Prove '..Said' where nothing that the law and all that it calls make is longer than what came in: it says more and counts as full. Else prove '..UptoSaid'. A law counts once. -/
mutual
def uptoBulk {H : Type} : DataW H → Nat
  | .lit (.string bytes) => bytes.length + 1
  | .lit _ => 1
  | .nil => 1
  | .ptr d => uptoBulk d + 1
  | .slice elems spare => uptoBulkAll elems + uptoBulkAll spare + 1
  | .agg parts => uptoBulkAll parts + 1
  | .iface _ d => uptoBulk d + 1
  | .map entries => uptoBulkEntries entries + 1
  | .held _ => 1
def uptoBulkAll {H : Type} : List (DataW H) → Nat
  | [] => 0
  | d :: r => uptoBulk d + uptoBulkAll r
def uptoBulkEntries {H : Type} : List (Lit × DataW H) → Nat
  | [] => 0
  | x :: r => uptoBulkEntry x + uptoBulkEntries r
def uptoBulkEntry {H : Type} : Lit × DataW H → Nat
  | (.string bytes, d) => bytes.length + uptoBulk d + 1
  | (_, d) => uptoBulk d + 1
 end
def uptoSmall : (H : Type) → List (DataW H) → Bool := fun _ ds => decide (uptoBulkAll ds ≤ 1048576)
def OpenSpec.upto (s : _root_.Go.ChangeSpec) : _root_.Go.OpenSpec := { _root_.Go.OpenSpec.ofChange s with cond := some uptoSmall }

/-- 'laws.FnFramePut', WHERE WHAT IT READS IS OF BULK AT MOST 1048576: true; the input reads as it did. -/
def fnFramePutUptoRow : OpenClaim := { program := "ytgdefengkacnfaa", sum := "b18fa124db4eeee08a7966ed05d9f5d2d236075b65e4e24b6a09f8e440f1c13b", func := "loop.example/steerage/laws.FnFramePut", spec := "fnFramePut", apart := false, narrowed := true }
def FnFramePutUptoSaid : Prop := fnFramePutUptoRow.holds Try.pinned (OpenSpec.upto fnFramePutSpec)

/-- 'laws.FnFrameCut', WHERE WHAT IT READS IS OF BULK AT MOST 1048576: true; the input reads as it did. -/
def fnFrameCutUptoRow : OpenClaim := { program := "ytgdefengkacnfaa", sum := "b18fa124db4eeee08a7966ed05d9f5d2d236075b65e4e24b6a09f8e440f1c13b", func := "loop.example/steerage/laws.FnFrameCut", spec := "fnFrameCut", apart := false, narrowed := true }
def FnFrameCutUptoSaid : Prop := fnFrameCutUptoRow.holds Try.pinned (OpenSpec.upto fnFrameCutSpec)

/-- 'laws.FnExactFrameCut', WHERE WHAT IT READS IS OF BULK AT MOST 1048576: true; the input reads as it did. -/
def fnExactFrameCutUptoRow : OpenClaim := { program := "ytgdefengkacnfaa", sum := "b18fa124db4eeee08a7966ed05d9f5d2d236075b65e4e24b6a09f8e440f1c13b", func := "loop.example/steerage/laws.FnExactFrameCut", spec := "fnExactFrameCut", apart := false, narrowed := true }
def FnExactFrameCutUptoSaid : Prop := fnExactFrameCutUptoRow.holds Try.pinned (OpenSpec.upto fnExactFrameCutSpec)

/-- 'laws.FnExactFramePut', WHERE WHAT IT READS IS OF BULK AT MOST 1048576: true; the input reads as it did. -/
def fnExactFramePutUptoRow : OpenClaim := { program := "ytgdefengkacnfaa", sum := "b18fa124db4eeee08a7966ed05d9f5d2d236075b65e4e24b6a09f8e440f1c13b", func := "loop.example/steerage/laws.FnExactFramePut", spec := "fnExactFramePut", apart := false, narrowed := true }
def FnExactFramePutUptoSaid : Prop := fnExactFramePutUptoRow.holds Try.pinned (OpenSpec.upto fnExactFramePutSpec)

end Rows
end Go.Proofs.Ytgdefengkacnfaa
