/-
  DERIVED. GIVEN WITH THE SEED: THE CARDS: each row of YtpfmfbadeebeeabDoorRows.lean that lists a variable, with what it lists TIED to the program's text (the seventh form; the later family's looks); each row that meets fmt, with fmt's text TOLD by the authors' own Lean function (tested against real Go, not proved from fmt's source: count such statements apart). THE CARD IS WHAT COUNTS. Prove the row's statement (the work); the ties are given (YtpfmfbadeebeeabDoorTie.lean); close each card by the builder's one call (the guide's Derived/Test/ToyasCard.lean, 'card_holds'). Laid BY PROGRAM, IN A SANDBOX (cutbox-door.mjs). By AI agents, Wed Nov 11 2026. No macro, syntax, notation, axiom, sorry.
-/
import Derived.Test.YtpfmfbadeebeeabDoorRows
import GoSem.ClaimSeven
namespace Go.Proofs.YtpfmfbadeebeeabDoor
namespace Rows

/-- THE TIED CARD OF 'laws.FnExactFma'. -/
def fnExactFmaCard : Claim7 := { stood := { row := fnExactFmaRow, standIns := [], harness := (true, "d3965c9b0e2236747a424ceb7c08be223a09e4a5e04c97d3405aed803aa76958"), looks := false }, kinds := [], alts := [], laidByText := true, laidKinds := [.wider], laidTests := true, laidLooks := .later }
def FnExactFmaCardSaid : Prop := Claim7.holds Tryd.pinned (.plain (OpenSpec.ofChange fnExactFmaSpec)) fnExactFmaCard

/-- THE TIED CARD OF 'laws.FnPack'. -/
def fnPackCard : Claim7 := { stood := { row := fnPackRow, standIns := [], harness := (true, "d3965c9b0e2236747a424ceb7c08be223a09e4a5e04c97d3405aed803aa76958"), looks := false }, kinds := [], alts := [], laidByText := true, laidKinds := [.wider], laidTests := true, laidLooks := .later }
def FnPackCardSaid : Prop := Claim7.holds Tryd.pinned (.plain (OpenSpec.ofChange fnPackSpec)) fnPackCard

/-- THE SECOND FORM's CARD OF 'laws.FnExactFma'. -/
def fnExactFmaUptoCard : Claim7 := { stood := { row := fnExactFmaUptoRow, standIns := [], harness := (true, "d3965c9b0e2236747a424ceb7c08be223a09e4a5e04c97d3405aed803aa76958"), looks := false }, kinds := [], alts := [], laidByText := true, laidKinds := [.wider], laidTests := true, laidLooks := .later }
def FnExactFmaUptoCardSaid : Prop := Claim7.holds Tryd.pinned (.plain (OpenSpec.upto fnExactFmaSpec)) fnExactFmaUptoCard

/-- THE SECOND FORM's CARD OF 'laws.FnPack'. -/
def fnPackUptoCard : Claim7 := { stood := { row := fnPackUptoRow, standIns := [], harness := (true, "d3965c9b0e2236747a424ceb7c08be223a09e4a5e04c97d3405aed803aa76958"), looks := false }, kinds := [], alts := [], laidByText := true, laidKinds := [.wider], laidTests := true, laidLooks := .later }
def FnPackUptoCardSaid : Prop := Claim7.holds Tryd.pinned (.plain (OpenSpec.upto fnPackSpec)) fnPackUptoCard
end Rows
end Go.Proofs.YtpfmfbadeebeeabDoor
