/-
  DERIVED. GIVEN WITH THE SEED: THE CARDS: each row of YtfakbjgbbcigpaaGreatDoorRows.lean that lists a variable, with what it lists TIED to the program's text (the seventh form; the later family's looks); each row that meets fmt, with fmt's text TOLD by the authors' own Lean function (tested against real Go, not proved from fmt's source: count such statements apart). THE CARD IS WHAT COUNTS. Prove the row's statement (the work); the ties are given (YtfakbjgbbcigpaaGreatDoorTie.lean); close each card by the builder's one call (the guide's Derived/Test/ToyasCard.lean, 'card_holds'). Laid BY PROGRAM, IN A SANDBOX (cutbox-door.mjs). By AI agents, Wed Nov 11 2026. No macro, syntax, notation, axiom, sorry.
-/
import Derived.Test.YtfakbjgbbcigpaaGreatDoorRows
import GoSem.ClaimSeven
namespace Go.Proofs.YtfakbjgbbcigpaaGreatDoor
namespace Rows

/-- THE TIED CARD OF 'laws.FnInts'. -/
def fnIntsCard : Claim7 := { stood := { row := fnIntsRow, standIns := [], harness := (true, "3993de3539644a72114a64937369974a188218b1327e6c9d151ca0a056b1a6b2"), looks := false }, kinds := [], alts := [], laidByText := true, laidKinds := [.wider], laidTests := true, laidLooks := .later }
def FnIntsCardSaid : Prop := Claim7.holds Tryz.pinned (.plain (OpenSpec.ofChange fnIntsSpec)) fnIntsCard

/-- THE TIED CARD OF 'laws.FnWhole'. -/
def fnWholeCard : Claim7 := { stood := { row := fnWholeRow, standIns := [], harness := (true, "3993de3539644a72114a64937369974a188218b1327e6c9d151ca0a056b1a6b2"), looks := false }, kinds := [], alts := [], laidByText := true, laidKinds := [.wider], laidTests := true, laidLooks := .later }
def FnWholeCardSaid : Prop := Claim7.holds Tryz.pinned (.plain (OpenSpec.ofChange fnWholeSpec)) fnWholeCard

/-- THE SECOND FORM's CARD OF 'laws.FnInts'. -/
def fnIntsUptoCard : Claim7 := { stood := { row := fnIntsUptoRow, standIns := [], harness := (true, "3993de3539644a72114a64937369974a188218b1327e6c9d151ca0a056b1a6b2"), looks := false }, kinds := [], alts := [], laidByText := true, laidKinds := [.wider], laidTests := true, laidLooks := .later }
def FnIntsUptoCardSaid : Prop := Claim7.holds Tryz.pinned (.plain (OpenSpec.upto fnIntsSpec)) fnIntsUptoCard

/-- THE SECOND FORM's CARD OF 'laws.FnWhole'. -/
def fnWholeUptoCard : Claim7 := { stood := { row := fnWholeUptoRow, standIns := [], harness := (true, "3993de3539644a72114a64937369974a188218b1327e6c9d151ca0a056b1a6b2"), looks := false }, kinds := [], alts := [], laidByText := true, laidKinds := [.wider], laidTests := true, laidLooks := .later }
def FnWholeUptoCardSaid : Prop := Claim7.holds Tryz.pinned (.plain (OpenSpec.upto fnWholeSpec)) fnWholeUptoCard
end Rows
end Go.Proofs.YtfakbjgbbcigpaaGreatDoor
