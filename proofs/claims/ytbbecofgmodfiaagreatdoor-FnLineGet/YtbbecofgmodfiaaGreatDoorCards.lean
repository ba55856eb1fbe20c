/-
  DERIVED. GIVEN WITH THE SEED: THE CARDS: each row of YtbbecofgmodfiaaGreatDoorRows.lean that lists a variable, with what it lists TIED to the program's text (the seventh form; the later family's looks); each row that meets fmt, with fmt's text TOLD by the authors' own Lean function (tested against real Go, not proved from fmt's source: count such statements apart). THE CARD IS WHAT COUNTS. Prove the row's statement (the work); the ties are given (YtbbecofgmodfiaaGreatDoorTie.lean); close each card by the builder's one call (the guide's Derived/Test/ToyasCard.lean, 'card_holds'). Laid BY PROGRAM, IN A SANDBOX (cutbox-door.mjs). By AI agents, Wed Nov 11 2026. No macro, syntax, notation, axiom, sorry.
-/
import Derived.Test.YtbbecofgmodfiaaGreatDoorRows
import GoSem.ClaimSeven
namespace Go.Proofs.YtbbecofgmodfiaaGreatDoor
namespace Rows

/-- THE TIED CARD OF 'laws.FnLinePut'. -/
def fnLinePutCard : Claim7 := { stood := { row := fnLinePutRow, standIns := [], harness := (true, "a9858dda332a2a8bee27966707020578b18adb60594f94570e25f2a4f014a80d"), looks := true }, kinds := [], alts := [], laidByText := true, laidKinds := [.data, .data, .data, .data, .sentinel, .sentinel, .data, .data, .pinned], laidTests := true, laidLooks := .later }
def FnLinePutCardSaid : Prop := Claim7.holds Tryz.pinned (.plain (OpenSpec.ofChange fnLinePutSpec)) fnLinePutCard

/-- THE TIED CARD OF 'laws.FnLineGet'. -/
def fnLineGetCard : Claim7 := { stood := { row := fnLineGetRow, standIns := [], harness := (true, "a9858dda332a2a8bee27966707020578b18adb60594f94570e25f2a4f014a80d"), looks := true }, kinds := [], alts := [], laidByText := true, laidKinds := [.data, .data, .data, .data, .sentinel, .sentinel, .data, .data, .pinned], laidTests := true, laidLooks := .later }
def FnLineGetCardSaid : Prop := Claim7.holds Tryz.pinned (.plain (OpenSpec.ofChange fnLineGetSpec)) fnLineGetCard

/-- THE SECOND FORM's CARD OF 'laws.FnLinePut'. -/
def fnLinePutUptoCard : Claim7 := { stood := { row := fnLinePutUptoRow, standIns := [], harness := (true, "a9858dda332a2a8bee27966707020578b18adb60594f94570e25f2a4f014a80d"), looks := true }, kinds := [], alts := [], laidByText := true, laidKinds := [.data, .data, .data, .data, .sentinel, .sentinel, .data, .data, .pinned], laidTests := true, laidLooks := .later }
def FnLinePutUptoCardSaid : Prop := Claim7.holds Tryz.pinned (.plain (OpenSpec.upto fnLinePutSpec)) fnLinePutUptoCard

/-- THE SECOND FORM's CARD OF 'laws.FnLineGet'. -/
def fnLineGetUptoCard : Claim7 := { stood := { row := fnLineGetUptoRow, standIns := [], harness := (true, "a9858dda332a2a8bee27966707020578b18adb60594f94570e25f2a4f014a80d"), looks := true }, kinds := [], alts := [], laidByText := true, laidKinds := [.data, .data, .data, .data, .sentinel, .sentinel, .data, .data, .pinned], laidTests := true, laidLooks := .later }
def FnLineGetUptoCardSaid : Prop := Claim7.holds Tryz.pinned (.plain (OpenSpec.upto fnLineGetSpec)) fnLineGetUptoCard
end Rows
end Go.Proofs.YtbbecofgmodfiaaGreatDoor
