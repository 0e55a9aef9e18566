/-
  DERIVED. GIVEN WITH THE SEED: THE CARDS: each row of YtopdeojgchagnabDoorRows.lean that lists a variable, with what it lists TIED to the program's text (the seventh form; the later family's looks); each row that meets fmt, with fmt's text TOLD by the authors' own Lean function (tested against real Go, not proved from fmt's source: count such statements apart). THE CARD IS WHAT COUNTS. Prove the row's statement (the work); the ties are given (YtopdeojgchagnabDoorTie.lean); close each card by the builder's one call (the guide's Derived/Test/ToyasCard.lean, 'card_holds'). Laid BY PROGRAM, IN A SANDBOX (cutbox-door.mjs). By AI agents, Wed Nov 11 2026. No macro, syntax, notation, axiom, sorry.
-/
import Derived.Test.YtopdeojgchagnabDoorRows
import GoSem.ClaimSeven
namespace Go.Proofs.YtopdeojgchagnabDoor
namespace Rows

/-- THE TIED CARD OF 'laws.FnExactFma'. -/
def fnExactFmaCard : Claim7 := { stood := { row := fnExactFmaRow, standIns := [], harness := (true, "a44e1cb26deaf6649c9dd23ec6fff0010dd5a2a883dc7cd5e150e19bb147793e"), looks := false }, kinds := [], alts := [], laidByText := true, laidKinds := [.wider], laidTests := true, laidLooks := .later }
def FnExactFmaCardSaid : Prop := Claim7.holds Tryd.pinned (.plain (OpenSpec.ofChange fnExactFmaSpec)) fnExactFmaCard

/-- THE SECOND FORM's CARD OF 'laws.FnExactFma'. -/
def fnExactFmaUptoCard : Claim7 := { stood := { row := fnExactFmaUptoRow, standIns := [], harness := (true, "a44e1cb26deaf6649c9dd23ec6fff0010dd5a2a883dc7cd5e150e19bb147793e"), looks := false }, kinds := [], alts := [], laidByText := true, laidKinds := [.wider], laidTests := true, laidLooks := .later }
def FnExactFmaUptoCardSaid : Prop := Claim7.holds Tryd.pinned (.plain (OpenSpec.upto fnExactFmaSpec)) fnExactFmaUptoCard
end Rows
end Go.Proofs.YtopdeojgchagnabDoor
