/-
  DERIVED. GIVEN WITH THE SEED: THE CARDS: each row of YtpfmfbadeebeeabGreatDoorRows.lean that lists a variable, with what it lists TIED to the program's text (the seventh form; the later family's looks); each row that meets fmt, with fmt's text TOLD by the authors' own Lean function (tested against real Go, not proved from fmt's source: count such statements apart). THE CARD IS WHAT COUNTS. Prove the row's statement (the work); the ties are given (YtpfmfbadeebeeabGreatDoorTie.lean); close each card by the builder's one call (the guide's Derived/Test/ToyasCard.lean, 'card_holds'). Laid BY PROGRAM, IN A SANDBOX (cutbox-door.mjs). By AI agents, Wed Nov 11 2026. No macro, syntax, notation, axiom, sorry.
-/
import Derived.Test.YtpfmfbadeebeeabGreatDoorRows
import GoSem.ClaimSeven
namespace Go.Proofs.YtpfmfbadeebeeabGreatDoor
namespace Rows

/-- THE TIED CARD OF 'laws.FnSwap'. -/
def fnSwapCard : Claim7 := { stood := { row := fnSwapRow, standIns := [], harness := (true, "c47f53f52500bcf56ee275c2ba7719e42cbae2ba25374afcd28841c6d23f1b32"), looks := false }, kinds := [], alts := [], laidByText := true, laidKinds := [.wider], laidTests := true, laidLooks := .later }
def FnSwapCardSaid : Prop := Claim7.holds Tryz.pinned (.plain (OpenSpec.ofChange fnSwapSpec)) fnSwapCard

/-- THE TIED CARD OF 'laws.FnFused'. -/
def fnFusedCard : Claim7 := { stood := { row := fnFusedRow, standIns := [], harness := (true, "c47f53f52500bcf56ee275c2ba7719e42cbae2ba25374afcd28841c6d23f1b32"), looks := false }, kinds := [], alts := [], laidByText := true, laidKinds := [.wider], laidTests := true, laidLooks := .later }
def FnFusedCardSaid : Prop := Claim7.holds Tryz.pinned (.plain (OpenSpec.ofChange fnFusedSpec)) fnFusedCard

/-- THE SECOND FORM's CARD OF 'laws.FnSwap'. -/
def fnSwapUptoCard : Claim7 := { stood := { row := fnSwapUptoRow, standIns := [], harness := (true, "c47f53f52500bcf56ee275c2ba7719e42cbae2ba25374afcd28841c6d23f1b32"), looks := false }, kinds := [], alts := [], laidByText := true, laidKinds := [.wider], laidTests := true, laidLooks := .later }
def FnSwapUptoCardSaid : Prop := Claim7.holds Tryz.pinned (.plain (OpenSpec.upto fnSwapSpec)) fnSwapUptoCard

/-- THE SECOND FORM's CARD OF 'laws.FnFused'. -/
def fnFusedUptoCard : Claim7 := { stood := { row := fnFusedUptoRow, standIns := [], harness := (true, "c47f53f52500bcf56ee275c2ba7719e42cbae2ba25374afcd28841c6d23f1b32"), looks := false }, kinds := [], alts := [], laidByText := true, laidKinds := [.wider], laidTests := true, laidLooks := .later }
def FnFusedUptoCardSaid : Prop := Claim7.holds Tryz.pinned (.plain (OpenSpec.upto fnFusedSpec)) fnFusedUptoCard
end Rows
end Go.Proofs.YtpfmfbadeebeeabGreatDoor
