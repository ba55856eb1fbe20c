/-
  No cell of these rows narrows 'for every input' (looked for: loops, veiled, ifaces, maps, wideKeys, modest, calm, conditions, laid).
  DERIVED. THE GIVEN ROWS OF THIS SEAT. 6 by the template 'for every input the law returns true; each argument reads behind the call as it read before'; 0 by the template 'total and deterministic' (their statements: YtafhbigkdkgjoaaTotals.lean).
  GIVEN WITH THE SEED: the statements are not yours to turn. If you find one false, say at which input.
  Laid BY PROGRAM, IN A SANDBOX (cutbox-rows.mjs): the forced cells as the released guide's own fill.sh prints them over the translation 0ef3d9c8f1c5ad65… (all of the seat's roots in one cut). By AI agents, Wed Nov 11 2026. No macro, syntax, notation, axiom, sorry.
-/
import Derived.Test.YtafhbigkdkgjoaaChecked
import GoSem.Claim
import GoSem.ClaimJoined
import GoSem.ClaimMapViews
import Derived.JoinedTies
import Derived.KernelRfl
namespace Go.Proofs.Ytafhbigkdkgjoaa
/- THE CELL 'sum', in the pinned program and in every row, IS THE sha256 OF THE DUMP (.gsa) THAT YtafhbigkdkgjoaaProg.lean LOADS. Nothing in Lean hashes anything: it is a label: what it is worth is what the hold of that sum in a sandbox is worth. -/
noncomputable def Try.pinned : Pinned := { name := "ytafhbigkdkgjoaa", sum := "0ef3d9c8f1c5ad65b12227954edb0eb5722247648dcd11ca32c0de8bb6973a41", checked := Try.checked }
namespace Rows
def none {H : Type} : Left H := { results := [], args := [] }

/-- 'laws.FnExactTableOk': WHATEVER THE INPUT: true; the input reads as it did. -/
def fnExactTableOkSpec : ChangeSpec := { name := "fnExactTableOk", fn := fun _ => fun
  | [d] => { results := [.lit (.bool true)], args := [d] }
  | _ => none }
def fnExactTableOkRow : OpenClaim := { program := "ytafhbigkdkgjoaa", sum := "0ef3d9c8f1c5ad65b12227954edb0eb5722247648dcd11ca32c0de8bb6973a41", func := "loop.example/steerage/laws.FnExactTableOk", spec := "fnExactTableOk", apart := false }
def FnExactTableOkSaid : Prop := fnExactTableOkRow.holds Try.pinned (OpenSpec.ofChange fnExactTableOkSpec)

/-- ITS FALSE NEIGHBOUR: 'it returns false'. Refute it at one input. -/
def fnExactTableOkWrong : ChangeSpec := { name := "fnExactTableOk", fn := fun _ => fun
  | [d] => { results := [.lit (.bool false)], args := [d] }
  | _ => none }
def FnExactTableOkWrongFalsely : Prop := fnExactTableOkRow.holds Try.pinned (OpenSpec.ofChange fnExactTableOkWrong)

/-- 'laws.FnExactTableNew': WHATEVER THE INPUT: true; the input reads as it did. -/
def fnExactTableNewSpec : ChangeSpec := { name := "fnExactTableNew", fn := fun _ => fun
  | [d1, d2, d3] => { results := [.lit (.bool true)], args := [d1, d2, d3] }
  | _ => none }
def fnExactTableNewRow : OpenClaim := { program := "ytafhbigkdkgjoaa", sum := "0ef3d9c8f1c5ad65b12227954edb0eb5722247648dcd11ca32c0de8bb6973a41", func := "loop.example/steerage/laws.FnExactTableNew", spec := "fnExactTableNew", inPlace := ["internal/abi.NoEscape", "internal/bytealg.MakeNoZero"], unfollowed := true, recurses := true, apart := false }
def FnExactTableNewSaid : Prop := fnExactTableNewRow.holds Try.pinned (OpenSpec.ofChange fnExactTableNewSpec)

/-- ITS FALSE NEIGHBOUR: 'it returns false'. Refute it at one input. -/
def fnExactTableNewWrong : ChangeSpec := { name := "fnExactTableNew", fn := fun _ => fun
  | [d1, d2, d3] => { results := [.lit (.bool false)], args := [d1, d2, d3] }
  | _ => none }
def FnExactTableNewWrongFalsely : Prop := fnExactTableNewRow.holds Try.pinned (OpenSpec.ofChange fnExactTableNewWrong)

/-- 'laws.FnExactTableLook': WHATEVER THE INPUT: true; the input reads as it did. -/
def fnExactTableLookSpec : ChangeSpec := { name := "fnExactTableLook", fn := fun _ => fun
  | [d1, d2] => { results := [.lit (.bool true)], args := [d1, d2] }
  | _ => none }
def fnExactTableLookRow : OpenClaim := { program := "ytafhbigkdkgjoaa", sum := "0ef3d9c8f1c5ad65b12227954edb0eb5722247648dcd11ca32c0de8bb6973a41", func := "loop.example/steerage/laws.FnExactTableLook", spec := "fnExactTableLook", unfollowed := true, recurses := true, apart := false }
def FnExactTableLookSaid : Prop := fnExactTableLookRow.holds Try.pinned (OpenSpec.ofChange fnExactTableLookSpec)

/-- ITS FALSE NEIGHBOUR: 'it returns false'. Refute it at one input. -/
def fnExactTableLookWrong : ChangeSpec := { name := "fnExactTableLook", fn := fun _ => fun
  | [d1, d2] => { results := [.lit (.bool false)], args := [d1, d2] }
  | _ => none }
def FnExactTableLookWrongFalsely : Prop := fnExactTableLookRow.holds Try.pinned (OpenSpec.ofChange fnExactTableLookWrong)

/-- 'laws.FnExactTablePut': WHATEVER THE INPUT: true; the input reads as it did. -/
def fnExactTablePutSpec : ChangeSpec := { name := "fnExactTablePut", fn := fun _ => fun
  | [d1, d2, d3] => { results := [.lit (.bool true)], args := [d1, d2, d3] }
  | _ => none }
def fnExactTablePutRow : OpenClaim := { program := "ytafhbigkdkgjoaa", sum := "0ef3d9c8f1c5ad65b12227954edb0eb5722247648dcd11ca32c0de8bb6973a41", func := "loop.example/steerage/laws.FnExactTablePut", spec := "fnExactTablePut", unfollowed := true, recurses := true, apart := false }
def FnExactTablePutSaid : Prop := fnExactTablePutRow.holds Try.pinned (OpenSpec.ofChange fnExactTablePutSpec)

/-- ITS FALSE NEIGHBOUR: 'it returns false'. Refute it at one input. -/
def fnExactTablePutWrong : ChangeSpec := { name := "fnExactTablePut", fn := fun _ => fun
  | [d1, d2, d3] => { results := [.lit (.bool false)], args := [d1, d2, d3] }
  | _ => none }
def FnExactTablePutWrongFalsely : Prop := fnExactTablePutRow.holds Try.pinned (OpenSpec.ofChange fnExactTablePutWrong)

/-- 'laws.FnExactTableDrop': WHATEVER THE INPUT: true; the input reads as it did. -/
def fnExactTableDropSpec : ChangeSpec := { name := "fnExactTableDrop", fn := fun _ => fun
  | [d1, d2] => { results := [.lit (.bool true)], args := [d1, d2] }
  | _ => none }
def fnExactTableDropRow : OpenClaim := { program := "ytafhbigkdkgjoaa", sum := "0ef3d9c8f1c5ad65b12227954edb0eb5722247648dcd11ca32c0de8bb6973a41", func := "loop.example/steerage/laws.FnExactTableDrop", spec := "fnExactTableDrop", inPlace := ["internal/abi.NoEscape", "internal/bytealg.MakeNoZero"], unfollowed := true, recurses := true, apart := false }
def FnExactTableDropSaid : Prop := fnExactTableDropRow.holds Try.pinned (OpenSpec.ofChange fnExactTableDropSpec)

/-- ITS FALSE NEIGHBOUR: 'it returns false'. Refute it at one input. -/
def fnExactTableDropWrong : ChangeSpec := { name := "fnExactTableDrop", fn := fun _ => fun
  | [d1, d2] => { results := [.lit (.bool false)], args := [d1, d2] }
  | _ => none }
def FnExactTableDropWrongFalsely : Prop := fnExactTableDropRow.holds Try.pinned (OpenSpec.ofChange fnExactTableDropWrong)

/-- 'laws.FnExactTableNext': WHATEVER THE INPUT: true; the input reads as it did. -/
def fnExactTableNextSpec : ChangeSpec := { name := "fnExactTableNext", fn := fun _ => fun
  | [d1, d2] => { results := [.lit (.bool true)], args := [d1, d2] }
  | _ => none }
def fnExactTableNextRow : OpenClaim := { program := "ytafhbigkdkgjoaa", sum := "0ef3d9c8f1c5ad65b12227954edb0eb5722247648dcd11ca32c0de8bb6973a41", func := "loop.example/steerage/laws.FnExactTableNext", spec := "fnExactTableNext", unfollowed := true, recurses := true, apart := false }
def FnExactTableNextSaid : Prop := fnExactTableNextRow.holds Try.pinned (OpenSpec.ofChange fnExactTableNextSpec)

/-- ITS FALSE NEIGHBOUR: 'it returns false'. Refute it at one input. -/
def fnExactTableNextWrong : ChangeSpec := { name := "fnExactTableNext", fn := fun _ => fun
  | [d1, d2] => { results := [.lit (.bool false)], args := [d1, d2] }
  | _ => none }
def FnExactTableNextWrongFalsely : Prop := fnExactTableNextRow.holds Try.pinned (OpenSpec.ofChange fnExactTableNextWrong)

/- THE SECOND FORM. 'bulk': how many values and letters a reading holds, each counted each time it is reached (what is shared counts as often as it is met; a slice's spare places count too). A statement '..UptoSaid' is the law's where the arguments, and the package variables that the reading takes, are together of bulk at most 1048576: NARROWER than '..Said'. Prove '..Said' where nothing that the law and all that it calls make is longer than what came in: it says more and counts as full. Else prove '..UptoSaid'. A law counts once. -/
mutual
def uptoBulk {H : Type} : DataW H → Nat
  | .lit (.string bytes) => bytes.length + 1
  | .lit _ => 1
  | .nil => 1
  | .ptr d => uptoBulk d + 1
  | .slice elems spare => uptoBulkAll elems + uptoBulkAll spare + 1
  | .agg parts => uptoBulkAll parts + 1
  | .iface _ d => uptoBulk d + 1
  | .map entries => uptoBulkEntries entries + 1
  | .held _ => 1
def uptoBulkAll {H : Type} : List (DataW H) → Nat
  | [] => 0
  | d :: r => uptoBulk d + uptoBulkAll r
def uptoBulkEntries {H : Type} : List (Lit × DataW H) → Nat
  | [] => 0
  | x :: r => uptoBulkEntry x + uptoBulkEntries r
def uptoBulkEntry {H : Type} : Lit × DataW H → Nat
  | (.string bytes, d) => bytes.length + uptoBulk d + 1
  | (_, d) => uptoBulk d + 1
 end
def uptoSmall : (H : Type) → List (DataW H) → Bool := fun _ ds => decide (uptoBulkAll ds ≤ 1048576)
def OpenSpec.upto (s : _root_.Go.ChangeSpec) : _root_.Go.OpenSpec := { _root_.Go.OpenSpec.ofChange s with cond := some uptoSmall }

/-- 'laws.FnExactTableOk', WHERE WHAT IT READS IS OF BULK AT MOST 1048576: true; the input reads as it did. -/
def fnExactTableOkUptoRow : OpenClaim := { program := "ytafhbigkdkgjoaa", sum := "0ef3d9c8f1c5ad65b12227954edb0eb5722247648dcd11ca32c0de8bb6973a41", func := "loop.example/steerage/laws.FnExactTableOk", spec := "fnExactTableOk", apart := false, narrowed := true }
def FnExactTableOkUptoSaid : Prop := fnExactTableOkUptoRow.holds Try.pinned (OpenSpec.upto fnExactTableOkSpec)

/-- 'laws.FnExactTableNew', WHERE WHAT IT READS IS OF BULK AT MOST 1048576: true; the input reads as it did. -/
def fnExactTableNewUptoRow : OpenClaim := { program := "ytafhbigkdkgjoaa", sum := "0ef3d9c8f1c5ad65b12227954edb0eb5722247648dcd11ca32c0de8bb6973a41", func := "loop.example/steerage/laws.FnExactTableNew", spec := "fnExactTableNew", inPlace := ["internal/abi.NoEscape", "internal/bytealg.MakeNoZero"], unfollowed := true, recurses := true, apart := false, narrowed := true }
def FnExactTableNewUptoSaid : Prop := fnExactTableNewUptoRow.holds Try.pinned (OpenSpec.upto fnExactTableNewSpec)

/-- 'laws.FnExactTableLook', WHERE WHAT IT READS IS OF BULK AT MOST 1048576: true; the input reads as it did. -/
def fnExactTableLookUptoRow : OpenClaim := { program := "ytafhbigkdkgjoaa", sum := "0ef3d9c8f1c5ad65b12227954edb0eb5722247648dcd11ca32c0de8bb6973a41", func := "loop.example/steerage/laws.FnExactTableLook", spec := "fnExactTableLook", unfollowed := true, recurses := true, apart := false, narrowed := true }
def FnExactTableLookUptoSaid : Prop := fnExactTableLookUptoRow.holds Try.pinned (OpenSpec.upto fnExactTableLookSpec)

/-- 'laws.FnExactTablePut', WHERE WHAT IT READS IS OF BULK AT MOST 1048576: true; the input reads as it did. -/
def fnExactTablePutUptoRow : OpenClaim := { program := "ytafhbigkdkgjoaa", sum := "0ef3d9c8f1c5ad65b12227954edb0eb5722247648dcd11ca32c0de8bb6973a41", func := "loop.example/steerage/laws.FnExactTablePut", spec := "fnExactTablePut", unfollowed := true, recurses := true, apart := false, narrowed := true }
def FnExactTablePutUptoSaid : Prop := fnExactTablePutUptoRow.holds Try.pinned (OpenSpec.upto fnExactTablePutSpec)

/-- 'laws.FnExactTableDrop', WHERE WHAT IT READS IS OF BULK AT MOST 1048576: true; the input reads as it did. -/
def fnExactTableDropUptoRow : OpenClaim := { program := "ytafhbigkdkgjoaa", sum := "0ef3d9c8f1c5ad65b12227954edb0eb5722247648dcd11ca32c0de8bb6973a41", func := "loop.example/steerage/laws.FnExactTableDrop", spec := "fnExactTableDrop", inPlace := ["internal/abi.NoEscape", "internal/bytealg.MakeNoZero"], unfollowed := true, recurses := true, apart := false, narrowed := true }
def FnExactTableDropUptoSaid : Prop := fnExactTableDropUptoRow.holds Try.pinned (OpenSpec.upto fnExactTableDropSpec)

/-- 'laws.FnExactTableNext', WHERE WHAT IT READS IS OF BULK AT MOST 1048576: true; the input reads as it did. -/
def fnExactTableNextUptoRow : OpenClaim := { program := "ytafhbigkdkgjoaa", sum := "0ef3d9c8f1c5ad65b12227954edb0eb5722247648dcd11ca32c0de8bb6973a41", func := "loop.example/steerage/laws.FnExactTableNext", spec := "fnExactTableNext", unfollowed := true, recurses := true, apart := false, narrowed := true }
def FnExactTableNextUptoSaid : Prop := fnExactTableNextUptoRow.holds Try.pinned (OpenSpec.upto fnExactTableNextSpec)

end Rows
end Go.Proofs.Ytafhbigkdkgjoaa
