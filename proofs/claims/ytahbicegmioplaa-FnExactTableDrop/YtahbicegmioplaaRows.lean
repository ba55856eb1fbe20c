/-
  No cell of these rows narrows 'for every input' (looked for: loops, veiled, ifaces, maps, wideKeys, modest, calm, conditions, laid).
  DERIVED. THE GIVEN ROWS OF THIS SEAT. 6 by the template 'for every input the law returns true; each argument reads behind the call as it read before'; 0 by the template 'total and deterministic' (their statements: YtahbicegmioplaaTotals.lean).
  GIVEN WITH THE SEED: the statements are not yours to turn. If you find one false, say at which input.
  Laid BY PROGRAM, IN A SANDBOX (cutbox-rows.mjs): the forced cells as the released guide's own fill.sh prints them over the translation cd076a1de8d16a99… (all of the seat's roots in one cut). By AI agents, Wed Nov 11 2026. No macro, syntax, notation, axiom, sorry.
-/
import Derived.Test.YtahbicegmioplaaChecked
import GoSem.Claim
import GoSem.ClaimJoined
import GoSem.ClaimMapViews
import Derived.JoinedTies
import Derived.KernelRfl
namespace Go.Proofs.Ytahbicegmioplaa
/- THE CELL 'sum', in the pinned program and in every row, IS THE sha256 OF THE DUMP (.gsa) THAT YtahbicegmioplaaProg.lean LOADS. Nothing in Lean hashes anything: it is a label: what it is worth is what the hold of that sum in a sandbox is worth. -/
noncomputable def Try.pinned : Pinned := { name := "ytahbicegmioplaa", sum := "cd076a1de8d16a994824fa8af5af624cef26badb7319889ac4cbd373465d3605", checked := Try.checked }
namespace Rows
def none {H : Type} : Left H := { results := [], args := [] }

/-- 'laws.FnTableNew': WHATEVER THE INPUT: true; the input reads as it did. -/
def fnTableNewSpec : ChangeSpec := { name := "fnTableNew", fn := fun _ => fun
  | [d] => { results := [.lit (.bool true)], args := [d] }
  | _ => none }
def fnTableNewRow : OpenClaim := { program := "ytahbicegmioplaa", sum := "cd076a1de8d16a994824fa8af5af624cef26badb7319889ac4cbd373465d3605", func := "loop.example/steerage/laws.FnTableNew", spec := "fnTableNew", inPlace := ["internal/abi.NoEscape", "internal/bytealg.MakeNoZero"], unfollowed := true, recurses := true, apart := false }
def FnTableNewSaid : Prop := fnTableNewRow.holds Try.pinned (OpenSpec.ofChange fnTableNewSpec)

/-- ITS FALSE NEIGHBOUR: 'it returns false'. Refute it at one input. -/
def fnTableNewWrong : ChangeSpec := { name := "fnTableNew", fn := fun _ => fun
  | [d] => { results := [.lit (.bool false)], args := [d] }
  | _ => none }
def FnTableNewWrongFalsely : Prop := fnTableNewRow.holds Try.pinned (OpenSpec.ofChange fnTableNewWrong)

/-- 'laws.FnTablePut': WHATEVER THE INPUT: true; the input reads as it did. -/
def fnTablePutSpec : ChangeSpec := { name := "fnTablePut", fn := fun _ => fun
  | [d1, d2] => { results := [.lit (.bool true)], args := [d1, d2] }
  | _ => none }
def fnTablePutRow : OpenClaim := { program := "ytahbicegmioplaa", sum := "cd076a1de8d16a994824fa8af5af624cef26badb7319889ac4cbd373465d3605", func := "loop.example/steerage/laws.FnTablePut", spec := "fnTablePut", unfollowed := true, recurses := true, apart := false }
def FnTablePutSaid : Prop := fnTablePutRow.holds Try.pinned (OpenSpec.ofChange fnTablePutSpec)

/-- ITS FALSE NEIGHBOUR: 'it returns false'. Refute it at one input. -/
def fnTablePutWrong : ChangeSpec := { name := "fnTablePut", fn := fun _ => fun
  | [d1, d2] => { results := [.lit (.bool false)], args := [d1, d2] }
  | _ => none }
def FnTablePutWrongFalsely : Prop := fnTablePutRow.holds Try.pinned (OpenSpec.ofChange fnTablePutWrong)

/-- 'laws.FnTableDrop': WHATEVER THE INPUT: true; the input reads as it did. -/
def fnTableDropSpec : ChangeSpec := { name := "fnTableDrop", fn := fun _ => fun
  | [d] => { results := [.lit (.bool true)], args := [d] }
  | _ => none }
def fnTableDropRow : OpenClaim := { program := "ytahbicegmioplaa", sum := "cd076a1de8d16a994824fa8af5af624cef26badb7319889ac4cbd373465d3605", func := "loop.example/steerage/laws.FnTableDrop", spec := "fnTableDrop", inPlace := ["internal/abi.NoEscape", "internal/bytealg.MakeNoZero"], unfollowed := true, recurses := true, apart := false }
def FnTableDropSaid : Prop := fnTableDropRow.holds Try.pinned (OpenSpec.ofChange fnTableDropSpec)

/-- ITS FALSE NEIGHBOUR: 'it returns false'. Refute it at one input. -/
def fnTableDropWrong : ChangeSpec := { name := "fnTableDrop", fn := fun _ => fun
  | [d] => { results := [.lit (.bool false)], args := [d] }
  | _ => none }
def FnTableDropWrongFalsely : Prop := fnTableDropRow.holds Try.pinned (OpenSpec.ofChange fnTableDropWrong)

/-- 'laws.FnTableNext': WHATEVER THE INPUT: true; the input reads as it did. -/
def fnTableNextSpec : ChangeSpec := { name := "fnTableNext", fn := fun _ => fun
  | [d] => { results := [.lit (.bool true)], args := [d] }
  | _ => none }
def fnTableNextRow : OpenClaim := { program := "ytahbicegmioplaa", sum := "cd076a1de8d16a994824fa8af5af624cef26badb7319889ac4cbd373465d3605", func := "loop.example/steerage/laws.FnTableNext", spec := "fnTableNext", unfollowed := true, recurses := true, apart := false }
def FnTableNextSaid : Prop := fnTableNextRow.holds Try.pinned (OpenSpec.ofChange fnTableNextSpec)

/-- ITS FALSE NEIGHBOUR: 'it returns false'. Refute it at one input. -/
def fnTableNextWrong : ChangeSpec := { name := "fnTableNext", fn := fun _ => fun
  | [d] => { results := [.lit (.bool false)], args := [d] }
  | _ => none }
def FnTableNextWrongFalsely : Prop := fnTableNextRow.holds Try.pinned (OpenSpec.ofChange fnTableNextWrong)

/-- 'laws.FnTableLook': WHATEVER THE INPUT: true; the input reads as it did. -/
def fnTableLookSpec : ChangeSpec := { name := "fnTableLook", fn := fun _ => fun
  | [d] => { results := [.lit (.bool true)], args := [d] }
  | _ => none }
def fnTableLookRow : OpenClaim := { program := "ytahbicegmioplaa", sum := "cd076a1de8d16a994824fa8af5af624cef26badb7319889ac4cbd373465d3605", func := "loop.example/steerage/laws.FnTableLook", spec := "fnTableLook", unfollowed := true, recurses := true, apart := false }
def FnTableLookSaid : Prop := fnTableLookRow.holds Try.pinned (OpenSpec.ofChange fnTableLookSpec)

/-- ITS FALSE NEIGHBOUR: 'it returns false'. Refute it at one input. -/
def fnTableLookWrong : ChangeSpec := { name := "fnTableLook", fn := fun _ => fun
  | [d] => { results := [.lit (.bool false)], args := [d] }
  | _ => none }
def FnTableLookWrongFalsely : Prop := fnTableLookRow.holds Try.pinned (OpenSpec.ofChange fnTableLookWrong)

/-- 'laws.FnExactTableDrop': WHATEVER THE INPUT: true; the input reads as it did. -/
def fnExactTableDropSpec : ChangeSpec := { name := "fnExactTableDrop", fn := fun _ => fun
  | [d1, d2] => { results := [.lit (.bool true)], args := [d1, d2] }
  | _ => none }
def fnExactTableDropRow : OpenClaim := { program := "ytahbicegmioplaa", sum := "cd076a1de8d16a994824fa8af5af624cef26badb7319889ac4cbd373465d3605", func := "loop.example/steerage/laws.FnExactTableDrop", spec := "fnExactTableDrop", inPlace := ["internal/abi.NoEscape", "internal/bytealg.MakeNoZero"], unfollowed := true, recurses := true, apart := false }
def FnExactTableDropSaid : Prop := fnExactTableDropRow.holds Try.pinned (OpenSpec.ofChange fnExactTableDropSpec)

/-- ITS FALSE NEIGHBOUR: 'it returns false'. Refute it at one input. -/
def fnExactTableDropWrong : ChangeSpec := { name := "fnExactTableDrop", fn := fun _ => fun
  | [d1, d2] => { results := [.lit (.bool false)], args := [d1, d2] }
  | _ => none }
def FnExactTableDropWrongFalsely : Prop := fnExactTableDropRow.holds Try.pinned (OpenSpec.ofChange fnExactTableDropWrong)

/- THE SECOND FORM. 'bulk': how many values and letters a reading holds, each counted each time it is reached (what is shared counts as often as it is met; a slice's spare places count too). A statement '..UptoSaid' is the law's where the arguments, and the package variables that the reading takes, are together of bulk at most 1048576: NARROWER than '..Said'. Prove '..Said' where nothing that the law and all that it calls make is longer than what came in: it says more and counts as full. Else prove '..UptoSaid'. A law counts once. -/
mutual
def uptoBulk {H : Type} : DataW H → Nat
  | .lit (.string bytes) => bytes.length + 1
  | .lit _ => 1
  | .nil => 1
  | .ptr d => uptoBulk d + 1
  | .slice elems spare => uptoBulkAll elems + uptoBulkAll spare + 1
  | .agg parts => uptoBulkAll parts + 1
  | .iface _ d => uptoBulk d + 1
  | .map entries => uptoBulkEntries entries + 1
  | .held _ => 1
def uptoBulkAll {H : Type} : List (DataW H) → Nat
  | [] => 0
  | d :: r => uptoBulk d + uptoBulkAll r
def uptoBulkEntries {H : Type} : List (Lit × DataW H) → Nat
  | [] => 0
  | x :: r => uptoBulkEntry x + uptoBulkEntries r
def uptoBulkEntry {H : Type} : Lit × DataW H → Nat
  | (.string bytes, d) => bytes.length + uptoBulk d + 1
  | (_, d) => uptoBulk d + 1
 end
def uptoSmall : (H : Type) → List (DataW H) → Bool := fun _ ds => decide (uptoBulkAll ds ≤ 1048576)
def OpenSpec.upto (s : _root_.Go.ChangeSpec) : _root_.Go.OpenSpec := { _root_.Go.OpenSpec.ofChange s with cond := some uptoSmall }

/-- 'laws.FnTableNew', WHERE WHAT IT READS IS OF BULK AT MOST 1048576: true; the input reads as it did. -/
def fnTableNewUptoRow : OpenClaim := { program := "ytahbicegmioplaa", sum := "cd076a1de8d16a994824fa8af5af624cef26badb7319889ac4cbd373465d3605", func := "loop.example/steerage/laws.FnTableNew", spec := "fnTableNew", inPlace := ["internal/abi.NoEscape", "internal/bytealg.MakeNoZero"], unfollowed := true, recurses := true, apart := false, narrowed := true }
def FnTableNewUptoSaid : Prop := fnTableNewUptoRow.holds Try.pinned (OpenSpec.upto fnTableNewSpec)

/-- 'laws.FnTablePut', WHERE WHAT IT READS IS OF BULK AT MOST 1048576: true; the input reads as it did. -/
def fnTablePutUptoRow : OpenClaim := { program := "ytahbicegmioplaa", sum := "cd076a1de8d16a994824fa8af5af624cef26badb7319889ac4cbd373465d3605", func := "loop.example/steerage/laws.FnTablePut", spec := "fnTablePut", unfollowed := true, recurses := true, apart := false, narrowed := true }
def FnTablePutUptoSaid : Prop := fnTablePutUptoRow.holds Try.pinned (OpenSpec.upto fnTablePutSpec)

/-- 'laws.FnTableDrop', WHERE WHAT IT READS IS OF BULK AT MOST 1048576: true; the input reads as it did. -/
def fnTableDropUptoRow : OpenClaim := { program := "ytahbicegmioplaa", sum := "cd076a1de8d16a994824fa8af5af624cef26badb7319889ac4cbd373465d3605", func := "loop.example/steerage/laws.FnTableDrop", spec := "fnTableDrop", inPlace := ["internal/abi.NoEscape", "internal/bytealg.MakeNoZero"], unfollowed := true, recurses := true, apart := false, narrowed := true }
def FnTableDropUptoSaid : Prop := fnTableDropUptoRow.holds Try.pinned (OpenSpec.upto fnTableDropSpec)

/-- 'laws.FnTableNext', WHERE WHAT IT READS IS OF BULK AT MOST 1048576: true; the input reads as it did. -/
def fnTableNextUptoRow : OpenClaim := { program := "ytahbicegmioplaa", sum := "cd076a1de8d16a994824fa8af5af624cef26badb7319889ac4cbd373465d3605", func := "loop.example/steerage/laws.FnTableNext", spec := "fnTableNext", unfollowed := true, recurses := true, apart := false, narrowed := true }
def FnTableNextUptoSaid : Prop := fnTableNextUptoRow.holds Try.pinned (OpenSpec.upto fnTableNextSpec)

/-- 'laws.FnTableLook', WHERE WHAT IT READS IS OF BULK AT MOST 1048576: true; the input reads as it did. -/
def fnTableLookUptoRow : OpenClaim := { program := "ytahbicegmioplaa", sum := "cd076a1de8d16a994824fa8af5af624cef26badb7319889ac4cbd373465d3605", func := "loop.example/steerage/laws.FnTableLook", spec := "fnTableLook", unfollowed := true, recurses := true, apart := false, narrowed := true }
def FnTableLookUptoSaid : Prop := fnTableLookUptoRow.holds Try.pinned (OpenSpec.upto fnTableLookSpec)

/-- 'laws.FnExactTableDrop', WHERE WHAT IT READS IS OF BULK AT MOST 1048576: true; the input reads as it did. -/
def fnExactTableDropUptoRow : OpenClaim := { program := "ytahbicegmioplaa", sum := "cd076a1de8d16a994824fa8af5af624cef26badb7319889ac4cbd373465d3605", func := "loop.example/steerage/laws.FnExactTableDrop", spec := "fnExactTableDrop", inPlace := ["internal/abi.NoEscape", "internal/bytealg.MakeNoZero"], unfollowed := true, recurses := true, apart := false, narrowed := true }
def FnExactTableDropUptoSaid : Prop := fnExactTableDropUptoRow.holds Try.pinned (OpenSpec.upto fnExactTableDropSpec)

end Rows
end Go.Proofs.Ytahbicegmioplaa
