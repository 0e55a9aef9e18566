/-
  DERIVED. GIVEN WITH THE SEED: THE CARDS: each row of YtkflpogmhailhaaGreatDoorRows.lean that lists a variable, with what it lists TIED to the program's text (the seventh form; the later family's looks); each row that meets fmt, with fmt's text TOLD by the authors' own Lean function (tested against real Go, not proved from fmt's source: count such statements apart). THE CARD IS WHAT COUNTS. Prove the row's statement (the work); the ties are given (YtkflpogmhailhaaGreatDoorTie.lean); close each card by the builder's one call (the guide's Derived/Test/ToyasCard.lean, 'card_holds'). Laid BY PROGRAM, IN A SANDBOX (cutbox-door.mjs). By AI agents, Wed Nov 11 2026. No macro, syntax, notation, axiom, sorry.
-/
import Derived.Test.YtkflpogmhailhaaGreatDoorRows
import GoSem.ClaimSeven
namespace Go.Proofs.YtkflpogmhailhaaGreatDoor
namespace Rows

/-- THE TIED CARD OF 'laws.FnRem'. -/
def fnRemCard : Claim7 := { stood := { row := fnRemRow, standIns := [], harness := (true, "22ebe88655376be4049b74d9712a31ba9e80f22bda0705f4855dd580b07badec"), looks := false }, kinds := [], alts := [], laidByText := true, laidKinds := [.wider], laidTests := true, laidLooks := .later }
def FnRemCardSaid : Prop := Claim7.holds Tryz.pinned (.plain (OpenSpec.ofChange fnRemSpec)) fnRemCard

/-- THE TIED CARD OF 'laws.FnSwap'. -/
def fnSwapCard : Claim7 := { stood := { row := fnSwapRow, standIns := [], harness := (true, "22ebe88655376be4049b74d9712a31ba9e80f22bda0705f4855dd580b07badec"), looks := false }, kinds := [], alts := [], laidByText := true, laidKinds := [.wider], laidTests := true, laidLooks := .later }
def FnSwapCardSaid : Prop := Claim7.holds Tryz.pinned (.plain (OpenSpec.ofChange fnSwapSpec)) fnSwapCard

/-- THE TIED CARD OF 'laws.FnFused'. -/
def fnFusedCard : Claim7 := { stood := { row := fnFusedRow, standIns := [], harness := (true, "22ebe88655376be4049b74d9712a31ba9e80f22bda0705f4855dd580b07badec"), looks := false }, kinds := [], alts := [], laidByText := true, laidKinds := [.wider], laidTests := true, laidLooks := .later }
def FnFusedCardSaid : Prop := Claim7.holds Tryz.pinned (.plain (OpenSpec.ofChange fnFusedSpec)) fnFusedCard

/-- THE TIED CARD OF 'laws.FnQuotient'. -/
def fnQuotientCard : Claim7 := { stood := { row := fnQuotientRow, standIns := [], harness := (true, "22ebe88655376be4049b74d9712a31ba9e80f22bda0705f4855dd580b07badec"), looks := false }, kinds := [], alts := [], laidByText := true, laidKinds := [.wider], laidTests := true, laidLooks := .later }
def FnQuotientCardSaid : Prop := Claim7.holds Tryz.pinned (.plain (OpenSpec.ofChange fnQuotientSpec)) fnQuotientCard

/-- THE SECOND FORM's CARD OF 'laws.FnRem'. -/
def fnRemUptoCard : Claim7 := { stood := { row := fnRemUptoRow, standIns := [], harness := (true, "22ebe88655376be4049b74d9712a31ba9e80f22bda0705f4855dd580b07badec"), looks := false }, kinds := [], alts := [], laidByText := true, laidKinds := [.wider], laidTests := true, laidLooks := .later }
def FnRemUptoCardSaid : Prop := Claim7.holds Tryz.pinned (.plain (OpenSpec.upto fnRemSpec)) fnRemUptoCard

/-- THE SECOND FORM's CARD OF 'laws.FnSwap'. -/
def fnSwapUptoCard : Claim7 := { stood := { row := fnSwapUptoRow, standIns := [], harness := (true, "22ebe88655376be4049b74d9712a31ba9e80f22bda0705f4855dd580b07badec"), looks := false }, kinds := [], alts := [], laidByText := true, laidKinds := [.wider], laidTests := true, laidLooks := .later }
def FnSwapUptoCardSaid : Prop := Claim7.holds Tryz.pinned (.plain (OpenSpec.upto fnSwapSpec)) fnSwapUptoCard

/-- THE SECOND FORM's CARD OF 'laws.FnFused'. -/
def fnFusedUptoCard : Claim7 := { stood := { row := fnFusedUptoRow, standIns := [], harness := (true, "22ebe88655376be4049b74d9712a31ba9e80f22bda0705f4855dd580b07badec"), looks := false }, kinds := [], alts := [], laidByText := true, laidKinds := [.wider], laidTests := true, laidLooks := .later }
def FnFusedUptoCardSaid : Prop := Claim7.holds Tryz.pinned (.plain (OpenSpec.upto fnFusedSpec)) fnFusedUptoCard

/-- THE SECOND FORM's CARD OF 'laws.FnQuotient'. -/
def fnQuotientUptoCard : Claim7 := { stood := { row := fnQuotientUptoRow, standIns := [], harness := (true, "22ebe88655376be4049b74d9712a31ba9e80f22bda0705f4855dd580b07badec"), looks := false }, kinds := [], alts := [], laidByText := true, laidKinds := [.wider], laidTests := true, laidLooks := .later }
def FnQuotientUptoCardSaid : Prop := Claim7.holds Tryz.pinned (.plain (OpenSpec.upto fnQuotientSpec)) fnQuotientUptoCard
end Rows
end Go.Proofs.YtkflpogmhailhaaGreatDoor
