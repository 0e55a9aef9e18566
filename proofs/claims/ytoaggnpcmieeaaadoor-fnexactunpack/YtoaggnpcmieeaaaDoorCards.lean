/-
  DERIVED. GIVEN WITH THE SEED: THE CARDS: each row of YtoaggnpcmieeaaaDoorRows.lean that lists a variable, with what it lists TIED to the program's text (the seventh form; the later family's looks); each row that meets fmt, with fmt's text TOLD by the authors' own Lean function (tested against real Go, not proved from fmt's source: count such statements apart). THE CARD IS WHAT COUNTS. Prove the row's statement (the work); the ties are given (YtoaggnpcmieeaaaDoorTie.lean); close each card by the builder's one call (the guide's Derived/Test/ToyasCard.lean, 'card_holds'). Laid BY PROGRAM, IN A SANDBOX (cutbox-door.mjs). By AI agents, Wed Nov 11 2026. No macro, syntax, notation, axiom, sorry.
-/
import Derived.Test.YtoaggnpcmieeaaaDoorRows
import GoSem.ClaimSeven
namespace Go.Proofs.YtoaggnpcmieeaaaDoor
namespace Rows

/-- THE TIED CARD OF 'laws.FnExactUnpack'. -/
def fnExactUnpackCard : Claim7 := { stood := { row := fnExactUnpackRow, standIns := [], harness := (true, "e32f8e7701d82b7585c911eac371e5e7e065ab78515fecd5fe45dfbe203d99f2"), looks := false }, kinds := [], alts := [], laidByText := true, laidKinds := [.wider], laidTests := true, laidLooks := .later }
def FnExactUnpackCardSaid : Prop := Claim7.holds Tryd.pinned (.plain (OpenSpec.ofChange fnExactUnpackSpec)) fnExactUnpackCard

/-- THE TIED CARD OF 'laws.FnExactNextUp'. -/
def fnExactNextUpCard : Claim7 := { stood := { row := fnExactNextUpRow, standIns := [], harness := (true, "e32f8e7701d82b7585c911eac371e5e7e065ab78515fecd5fe45dfbe203d99f2"), looks := false }, kinds := [], alts := [], laidByText := true, laidKinds := [.wider], laidTests := true, laidLooks := .later }
def FnExactNextUpCardSaid : Prop := Claim7.holds Tryd.pinned (.plain (OpenSpec.ofChange fnExactNextUpSpec)) fnExactNextUpCard

/-- THE TIED CARD OF 'laws.FnExactRoundPack'. -/
def fnExactRoundPackCard : Claim7 := { stood := { row := fnExactRoundPackRow, standIns := [], harness := (true, "e32f8e7701d82b7585c911eac371e5e7e065ab78515fecd5fe45dfbe203d99f2"), looks := false }, kinds := [], alts := [], laidByText := true, laidKinds := [.wider], laidTests := true, laidLooks := .later }
def FnExactRoundPackCardSaid : Prop := Claim7.holds Tryd.pinned (.plain (OpenSpec.ofChange fnExactRoundPackSpec)) fnExactRoundPackCard

/-- THE TIED CARD OF 'laws.FnPack'. -/
def fnPackCard : Claim7 := { stood := { row := fnPackRow, standIns := [], harness := (true, "e32f8e7701d82b7585c911eac371e5e7e065ab78515fecd5fe45dfbe203d99f2"), looks := false }, kinds := [], alts := [], laidByText := true, laidKinds := [.wider], laidTests := true, laidLooks := .later }
def FnPackCardSaid : Prop := Claim7.holds Tryd.pinned (.plain (OpenSpec.ofChange fnPackSpec)) fnPackCard

/-- THE SECOND FORM's CARD OF 'laws.FnExactUnpack'. -/
def fnExactUnpackUptoCard : Claim7 := { stood := { row := fnExactUnpackUptoRow, standIns := [], harness := (true, "e32f8e7701d82b7585c911eac371e5e7e065ab78515fecd5fe45dfbe203d99f2"), looks := false }, kinds := [], alts := [], laidByText := true, laidKinds := [.wider], laidTests := true, laidLooks := .later }
def FnExactUnpackUptoCardSaid : Prop := Claim7.holds Tryd.pinned (.plain (OpenSpec.upto fnExactUnpackSpec)) fnExactUnpackUptoCard

/-- THE SECOND FORM's CARD OF 'laws.FnExactNextUp'. -/
def fnExactNextUpUptoCard : Claim7 := { stood := { row := fnExactNextUpUptoRow, standIns := [], harness := (true, "e32f8e7701d82b7585c911eac371e5e7e065ab78515fecd5fe45dfbe203d99f2"), looks := false }, kinds := [], alts := [], laidByText := true, laidKinds := [.wider], laidTests := true, laidLooks := .later }
def FnExactNextUpUptoCardSaid : Prop := Claim7.holds Tryd.pinned (.plain (OpenSpec.upto fnExactNextUpSpec)) fnExactNextUpUptoCard

/-- THE SECOND FORM's CARD OF 'laws.FnExactRoundPack'. -/
def fnExactRoundPackUptoCard : Claim7 := { stood := { row := fnExactRoundPackUptoRow, standIns := [], harness := (true, "e32f8e7701d82b7585c911eac371e5e7e065ab78515fecd5fe45dfbe203d99f2"), looks := false }, kinds := [], alts := [], laidByText := true, laidKinds := [.wider], laidTests := true, laidLooks := .later }
def FnExactRoundPackUptoCardSaid : Prop := Claim7.holds Tryd.pinned (.plain (OpenSpec.upto fnExactRoundPackSpec)) fnExactRoundPackUptoCard

/-- THE SECOND FORM's CARD OF 'laws.FnPack'. -/
def fnPackUptoCard : Claim7 := { stood := { row := fnPackUptoRow, standIns := [], harness := (true, "e32f8e7701d82b7585c911eac371e5e7e065ab78515fecd5fe45dfbe203d99f2"), looks := false }, kinds := [], alts := [], laidByText := true, laidKinds := [.wider], laidTests := true, laidLooks := .later }
def FnPackUptoCardSaid : Prop := Claim7.holds Tryd.pinned (.plain (OpenSpec.upto fnPackSpec)) fnPackUptoCard
end Rows
end Go.Proofs.YtoaggnpcmieeaaaDoor
