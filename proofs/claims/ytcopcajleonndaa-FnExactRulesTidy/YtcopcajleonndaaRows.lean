/-
  No cell of these rows narrows 'for every input' (looked for: loops, veiled, ifaces, maps, wideKeys, modest, calm, conditions, laid).
  DERIVED. THE GIVEN ROWS OF THIS SEAT. 4 by the template 'for every input the law returns true; each argument reads behind the call as it read before'; 0 by the template 'total and deterministic' (their statements: YtcopcajleonndaaTotals.lean).
  GIVEN WITH THE SEED: the statements are not yours to turn. If you find one false, say at which input.
  Laid BY PROGRAM, IN A SANDBOX (cutbox-rows.mjs): the forced cells as the released guide's own fill.sh prints them over the translation 0a785e6fe5f3f5d4… (all of the seat's roots in one cut). By AI agents, Wed Nov 11 2026. No macro, syntax, notation, axiom, sorry.
-/
import Derived.Test.YtcopcajleonndaaChecked
import GoSem.Claim
import GoSem.ClaimJoined
import GoSem.ClaimMapViews
import Derived.JoinedTies
import Derived.KernelRfl
namespace Go.Proofs.Ytcopcajleonndaa
/- THE CELL 'sum', in the pinned program and in every row, IS THE sha256 OF THE DUMP (.gsa) THAT YtcopcajleonndaaProg.lean LOADS. Nothing in Lean hashes anything: it is a label: what it is worth is what the hold of that sum in a sandbox is worth. -/
noncomputable def Try.pinned : Pinned := { name := "ytcopcajleonndaa", sum := "0a785e6fe5f3f5d46bd046d3c5cd3648f3e3da5f4696fefffd9e3f3a494b2598", checked := Try.checked }
namespace Rows
def none {H : Type} : Left H := { results := [], args := [] }

/-- 'laws.FnExactRulesOk': WHATEVER THE INPUT: true; the input reads as it did. -/
def fnExactRulesOkSpec : ChangeSpec := { name := "fnExactRulesOk", fn := fun _ => fun
  | [d] => { results := [.lit (.bool true)], args := [d] }
  | _ => none }
def fnExactRulesOkRow : OpenClaim := { program := "ytcopcajleonndaa", sum := "0a785e6fe5f3f5d46bd046d3c5cd3648f3e3da5f4696fefffd9e3f3a494b2598", func := "loop.example/steerage/laws.FnExactRulesOk", spec := "fnExactRulesOk", apart := false }
def FnExactRulesOkSaid : Prop := fnExactRulesOkRow.holds Try.pinned (OpenSpec.ofChange fnExactRulesOkSpec)

/-- ITS FALSE NEIGHBOUR: 'it returns false'. Refute it at one input. -/
def fnExactRulesOkWrong : ChangeSpec := { name := "fnExactRulesOk", fn := fun _ => fun
  | [d] => { results := [.lit (.bool false)], args := [d] }
  | _ => none }
def FnExactRulesOkWrongFalsely : Prop := fnExactRulesOkRow.holds Try.pinned (OpenSpec.ofChange fnExactRulesOkWrong)

/-- 'laws.FnExactRulesOf': WHATEVER THE INPUT: true; the input reads as it did. -/
def fnExactRulesOfSpec : ChangeSpec := { name := "fnExactRulesOf", fn := fun _ => fun
  | [d1, d2] => { results := [.lit (.bool true)], args := [d1, d2] }
  | _ => none }
def fnExactRulesOfRow : OpenClaim := { program := "ytcopcajleonndaa", sum := "0a785e6fe5f3f5d46bd046d3c5cd3648f3e3da5f4696fefffd9e3f3a494b2598", func := "loop.example/steerage/laws.FnExactRulesOf", spec := "fnExactRulesOf", unfollowed := true, recurses := true, apart := false }
def FnExactRulesOfSaid : Prop := fnExactRulesOfRow.holds Try.pinned (OpenSpec.ofChange fnExactRulesOfSpec)

/-- ITS FALSE NEIGHBOUR: 'it returns false'. Refute it at one input. -/
def fnExactRulesOfWrong : ChangeSpec := { name := "fnExactRulesOf", fn := fun _ => fun
  | [d1, d2] => { results := [.lit (.bool false)], args := [d1, d2] }
  | _ => none }
def FnExactRulesOfWrongFalsely : Prop := fnExactRulesOfRow.holds Try.pinned (OpenSpec.ofChange fnExactRulesOfWrong)

/-- 'laws.FnExactRulesProg': WHATEVER THE INPUT: true; the input reads as it did. -/
def fnExactRulesProgSpec : ChangeSpec := { name := "fnExactRulesProg", fn := fun _ => fun
  | [d] => { results := [.lit (.bool true)], args := [d] }
  | _ => none }
def fnExactRulesProgRow : OpenClaim := { program := "ytcopcajleonndaa", sum := "0a785e6fe5f3f5d46bd046d3c5cd3648f3e3da5f4696fefffd9e3f3a494b2598", func := "loop.example/steerage/laws.FnExactRulesProg", spec := "fnExactRulesProg", apart := false }
def FnExactRulesProgSaid : Prop := fnExactRulesProgRow.holds Try.pinned (OpenSpec.ofChange fnExactRulesProgSpec)

/-- ITS FALSE NEIGHBOUR: 'it returns false'. Refute it at one input. -/
def fnExactRulesProgWrong : ChangeSpec := { name := "fnExactRulesProg", fn := fun _ => fun
  | [d] => { results := [.lit (.bool false)], args := [d] }
  | _ => none }
def FnExactRulesProgWrongFalsely : Prop := fnExactRulesProgRow.holds Try.pinned (OpenSpec.ofChange fnExactRulesProgWrong)

/-- 'laws.FnExactRulesTidy': WHATEVER THE INPUT: true; the input reads as it did. -/
def fnExactRulesTidySpec : ChangeSpec := { name := "fnExactRulesTidy", fn := fun _ => fun
  | [d] => { results := [.lit (.bool true)], args := [d] }
  | _ => none }
def fnExactRulesTidyRow : OpenClaim := { program := "ytcopcajleonndaa", sum := "0a785e6fe5f3f5d46bd046d3c5cd3648f3e3da5f4696fefffd9e3f3a494b2598", func := "loop.example/steerage/laws.FnExactRulesTidy", spec := "fnExactRulesTidy", recurses := true, apart := false }
def FnExactRulesTidySaid : Prop := fnExactRulesTidyRow.holds Try.pinned (OpenSpec.ofChange fnExactRulesTidySpec)

/-- ITS FALSE NEIGHBOUR: 'it returns false'. Refute it at one input. -/
def fnExactRulesTidyWrong : ChangeSpec := { name := "fnExactRulesTidy", fn := fun _ => fun
  | [d] => { results := [.lit (.bool false)], args := [d] }
  | _ => none }
def FnExactRulesTidyWrongFalsely : Prop := fnExactRulesTidyRow.holds Try.pinned (OpenSpec.ofChange fnExactRulesTidyWrong)

/- THE SECOND FORM. 'bulk': how many values and letters a reading holds, each counted each time it is reached (what is shared counts as often as it is met; a slice's spare places count too). A statement '..UptoSaid' is the law's where the arguments, and the package variables that the reading takes, are together of bulk at most 1048576: NARROWER than '..Said'. Prove '..Said' where nothing that the law and all that it calls make is longer than what came in: it says more and counts as full. Else prove '..UptoSaid'. A law counts once. -/
mutual
def uptoBulk {H : Type} : DataW H → Nat
  | .lit (.string bytes) => bytes.length + 1
  | .lit _ => 1
  | .nil => 1
  | .ptr d => uptoBulk d + 1
  | .slice elems spare => uptoBulkAll elems + uptoBulkAll spare + 1
  | .agg parts => uptoBulkAll parts + 1
  | .iface _ d => uptoBulk d + 1
  | .map entries => uptoBulkEntries entries + 1
  | .held _ => 1
def uptoBulkAll {H : Type} : List (DataW H) → Nat
  | [] => 0
  | d :: r => uptoBulk d + uptoBulkAll r
def uptoBulkEntries {H : Type} : List (Lit × DataW H) → Nat
  | [] => 0
  | x :: r => uptoBulkEntry x + uptoBulkEntries r
def uptoBulkEntry {H : Type} : Lit × DataW H → Nat
  | (.string bytes, d) => bytes.length + uptoBulk d + 1
  | (_, d) => uptoBulk d + 1
 end
def uptoSmall : (H : Type) → List (DataW H) → Bool := fun _ ds => decide (uptoBulkAll ds ≤ 1048576)
def OpenSpec.upto (s : _root_.Go.ChangeSpec) : _root_.Go.OpenSpec := { _root_.Go.OpenSpec.ofChange s with cond := some uptoSmall }

/-- 'laws.FnExactRulesOk', WHERE WHAT IT READS IS OF BULK AT MOST 1048576: true; the input reads as it did. -/
def fnExactRulesOkUptoRow : OpenClaim := { program := "ytcopcajleonndaa", sum := "0a785e6fe5f3f5d46bd046d3c5cd3648f3e3da5f4696fefffd9e3f3a494b2598", func := "loop.example/steerage/laws.FnExactRulesOk", spec := "fnExactRulesOk", apart := false, narrowed := true }
def FnExactRulesOkUptoSaid : Prop := fnExactRulesOkUptoRow.holds Try.pinned (OpenSpec.upto fnExactRulesOkSpec)

/-- 'laws.FnExactRulesOf', WHERE WHAT IT READS IS OF BULK AT MOST 1048576: true; the input reads as it did. -/
def fnExactRulesOfUptoRow : OpenClaim := { program := "ytcopcajleonndaa", sum := "0a785e6fe5f3f5d46bd046d3c5cd3648f3e3da5f4696fefffd9e3f3a494b2598", func := "loop.example/steerage/laws.FnExactRulesOf", spec := "fnExactRulesOf", unfollowed := true, recurses := true, apart := false, narrowed := true }
def FnExactRulesOfUptoSaid : Prop := fnExactRulesOfUptoRow.holds Try.pinned (OpenSpec.upto fnExactRulesOfSpec)

/-- 'laws.FnExactRulesProg', WHERE WHAT IT READS IS OF BULK AT MOST 1048576: true; the input reads as it did. -/
def fnExactRulesProgUptoRow : OpenClaim := { program := "ytcopcajleonndaa", sum := "0a785e6fe5f3f5d46bd046d3c5cd3648f3e3da5f4696fefffd9e3f3a494b2598", func := "loop.example/steerage/laws.FnExactRulesProg", spec := "fnExactRulesProg", apart := false, narrowed := true }
def FnExactRulesProgUptoSaid : Prop := fnExactRulesProgUptoRow.holds Try.pinned (OpenSpec.upto fnExactRulesProgSpec)

/-- 'laws.FnExactRulesTidy', WHERE WHAT IT READS IS OF BULK AT MOST 1048576: true; the input reads as it did. -/
def fnExactRulesTidyUptoRow : OpenClaim := { program := "ytcopcajleonndaa", sum := "0a785e6fe5f3f5d46bd046d3c5cd3648f3e3da5f4696fefffd9e3f3a494b2598", func := "loop.example/steerage/laws.FnExactRulesTidy", spec := "fnExactRulesTidy", recurses := true, apart := false, narrowed := true }
def FnExactRulesTidyUptoSaid : Prop := fnExactRulesTidyUptoRow.holds Try.pinned (OpenSpec.upto fnExactRulesTidySpec)

end Rows
end Go.Proofs.Ytcopcajleonndaa
