/-
  DERIVED. GIVEN WITH THE SEED: THE CARDS: each row of YtfakbjgbbcigpaaDoorRows.lean that lists a variable, with what it lists TIED to the program's text (the seventh form; the later family's looks); each row that meets fmt, with fmt's text TOLD by the authors' own Lean function (tested against real Go, not proved from fmt's source: count such statements apart). THE CARD IS WHAT COUNTS. Prove the row's statement (the work); the ties are given (YtfakbjgbbcigpaaDoorTie.lean); close each card by the builder's one call (the guide's Derived/Test/ToyasCard.lean, 'card_holds'). Laid BY PROGRAM, IN A SANDBOX (cutbox-door.mjs). By AI agents, Wed Nov 11 2026. No macro, syntax, notation, axiom, sorry.
-/
import Derived.Test.YtfakbjgbbcigpaaDoorRows
import GoSem.ClaimSeven
namespace Go.Proofs.YtfakbjgbbcigpaaDoor
namespace Rows

/-- THE TIED CARD OF 'laws.FnExactCompare'. -/
def fnExactCompareCard : Claim7 := { stood := { row := fnExactCompareRow, standIns := [], harness := (true, "021c36e8db4420138d295071724a60be8fd32569b9e207eb341e812a2fab4024"), looks := false }, kinds := [], alts := [], laidByText := true, laidKinds := [.wider], laidTests := true, laidLooks := .later }
def FnExactCompareCardSaid : Prop := Claim7.holds Tryd.pinned (.plain (OpenSpec.ofChange fnExactCompareSpec)) fnExactCompareCard

/-- THE TIED CARD OF 'laws.FnExactMinimum'. -/
def fnExactMinimumCard : Claim7 := { stood := { row := fnExactMinimumRow, standIns := [], harness := (true, "021c36e8db4420138d295071724a60be8fd32569b9e207eb341e812a2fab4024"), looks := false }, kinds := [], alts := [], laidByText := true, laidKinds := [.wider], laidTests := true, laidLooks := .later }
def FnExactMinimumCardSaid : Prop := Claim7.holds Tryd.pinned (.plain (OpenSpec.ofChange fnExactMinimumSpec)) fnExactMinimumCard

/-- THE TIED CARD OF 'laws.FnExactMaximum'. -/
def fnExactMaximumCard : Claim7 := { stood := { row := fnExactMaximumRow, standIns := [], harness := (true, "021c36e8db4420138d295071724a60be8fd32569b9e207eb341e812a2fab4024"), looks := false }, kinds := [], alts := [], laidByText := true, laidKinds := [.wider], laidTests := true, laidLooks := .later }
def FnExactMaximumCardSaid : Prop := Claim7.holds Tryd.pinned (.plain (OpenSpec.ofChange fnExactMaximumSpec)) fnExactMaximumCard

/-- THE TIED CARD OF 'laws.FnExactToInt'. -/
def fnExactToIntCard : Claim7 := { stood := { row := fnExactToIntRow, standIns := [], harness := (true, "021c36e8db4420138d295071724a60be8fd32569b9e207eb341e812a2fab4024"), looks := false }, kinds := [], alts := [], laidByText := true, laidKinds := [.wider], laidTests := true, laidLooks := .later }
def FnExactToIntCardSaid : Prop := Claim7.holds Tryd.pinned (.plain (OpenSpec.ofChange fnExactToIntSpec)) fnExactToIntCard

/-- THE TIED CARD OF 'laws.FnExactFromInt'. -/
def fnExactFromIntCard : Claim7 := { stood := { row := fnExactFromIntRow, standIns := [], harness := (true, "021c36e8db4420138d295071724a60be8fd32569b9e207eb341e812a2fab4024"), looks := false }, kinds := [], alts := [], laidByText := true, laidKinds := [.wider], laidTests := true, laidLooks := .later }
def FnExactFromIntCardSaid : Prop := Claim7.holds Tryd.pinned (.plain (OpenSpec.ofChange fnExactFromIntSpec)) fnExactFromIntCard

/-- THE TIED CARD OF 'laws.FnOrder'. -/
def fnOrderCard : Claim7 := { stood := { row := fnOrderRow, standIns := [], harness := (true, "021c36e8db4420138d295071724a60be8fd32569b9e207eb341e812a2fab4024"), looks := false }, kinds := [], alts := [], laidByText := true, laidKinds := [.wider], laidTests := true, laidLooks := .later }
def FnOrderCardSaid : Prop := Claim7.holds Tryd.pinned (.plain (OpenSpec.ofChange fnOrderSpec)) fnOrderCard

/-- THE TIED CARD OF 'laws.FnExactConvert'. -/
def fnExactConvertCard : Claim7 := { stood := { row := fnExactConvertRow, standIns := [], harness := (true, "021c36e8db4420138d295071724a60be8fd32569b9e207eb341e812a2fab4024"), looks := false }, kinds := [], alts := [], laidByText := true, laidKinds := [.wider], laidTests := true, laidLooks := .later }
def FnExactConvertCardSaid : Prop := Claim7.holds Tryd.pinned (.plain (OpenSpec.ofChange fnExactConvertSpec)) fnExactConvertCard

/-- THE TIED CARD OF 'laws.FnExactRoundInt'. -/
def fnExactRoundIntCard : Claim7 := { stood := { row := fnExactRoundIntRow, standIns := [], harness := (true, "021c36e8db4420138d295071724a60be8fd32569b9e207eb341e812a2fab4024"), looks := false }, kinds := [], alts := [], laidByText := true, laidKinds := [.wider], laidTests := true, laidLooks := .later }
def FnExactRoundIntCardSaid : Prop := Claim7.holds Tryd.pinned (.plain (OpenSpec.ofChange fnExactRoundIntSpec)) fnExactRoundIntCard

/-- THE SECOND FORM's CARD OF 'laws.FnExactCompare'. -/
def fnExactCompareUptoCard : Claim7 := { stood := { row := fnExactCompareUptoRow, standIns := [], harness := (true, "021c36e8db4420138d295071724a60be8fd32569b9e207eb341e812a2fab4024"), looks := false }, kinds := [], alts := [], laidByText := true, laidKinds := [.wider], laidTests := true, laidLooks := .later }
def FnExactCompareUptoCardSaid : Prop := Claim7.holds Tryd.pinned (.plain (OpenSpec.upto fnExactCompareSpec)) fnExactCompareUptoCard

/-- THE SECOND FORM's CARD OF 'laws.FnExactMinimum'. -/
def fnExactMinimumUptoCard : Claim7 := { stood := { row := fnExactMinimumUptoRow, standIns := [], harness := (true, "021c36e8db4420138d295071724a60be8fd32569b9e207eb341e812a2fab4024"), looks := false }, kinds := [], alts := [], laidByText := true, laidKinds := [.wider], laidTests := true, laidLooks := .later }
def FnExactMinimumUptoCardSaid : Prop := Claim7.holds Tryd.pinned (.plain (OpenSpec.upto fnExactMinimumSpec)) fnExactMinimumUptoCard

/-- THE SECOND FORM's CARD OF 'laws.FnExactMaximum'. -/
def fnExactMaximumUptoCard : Claim7 := { stood := { row := fnExactMaximumUptoRow, standIns := [], harness := (true, "021c36e8db4420138d295071724a60be8fd32569b9e207eb341e812a2fab4024"), looks := false }, kinds := [], alts := [], laidByText := true, laidKinds := [.wider], laidTests := true, laidLooks := .later }
def FnExactMaximumUptoCardSaid : Prop := Claim7.holds Tryd.pinned (.plain (OpenSpec.upto fnExactMaximumSpec)) fnExactMaximumUptoCard

/-- THE SECOND FORM's CARD OF 'laws.FnExactToInt'. -/
def fnExactToIntUptoCard : Claim7 := { stood := { row := fnExactToIntUptoRow, standIns := [], harness := (true, "021c36e8db4420138d295071724a60be8fd32569b9e207eb341e812a2fab4024"), looks := false }, kinds := [], alts := [], laidByText := true, laidKinds := [.wider], laidTests := true, laidLooks := .later }
def FnExactToIntUptoCardSaid : Prop := Claim7.holds Tryd.pinned (.plain (OpenSpec.upto fnExactToIntSpec)) fnExactToIntUptoCard

/-- THE SECOND FORM's CARD OF 'laws.FnExactFromInt'. -/
def fnExactFromIntUptoCard : Claim7 := { stood := { row := fnExactFromIntUptoRow, standIns := [], harness := (true, "021c36e8db4420138d295071724a60be8fd32569b9e207eb341e812a2fab4024"), looks := false }, kinds := [], alts := [], laidByText := true, laidKinds := [.wider], laidTests := true, laidLooks := .later }
def FnExactFromIntUptoCardSaid : Prop := Claim7.holds Tryd.pinned (.plain (OpenSpec.upto fnExactFromIntSpec)) fnExactFromIntUptoCard

/-- THE SECOND FORM's CARD OF 'laws.FnOrder'. -/
def fnOrderUptoCard : Claim7 := { stood := { row := fnOrderUptoRow, standIns := [], harness := (true, "021c36e8db4420138d295071724a60be8fd32569b9e207eb341e812a2fab4024"), looks := false }, kinds := [], alts := [], laidByText := true, laidKinds := [.wider], laidTests := true, laidLooks := .later }
def FnOrderUptoCardSaid : Prop := Claim7.holds Tryd.pinned (.plain (OpenSpec.upto fnOrderSpec)) fnOrderUptoCard

/-- THE SECOND FORM's CARD OF 'laws.FnExactConvert'. -/
def fnExactConvertUptoCard : Claim7 := { stood := { row := fnExactConvertUptoRow, standIns := [], harness := (true, "021c36e8db4420138d295071724a60be8fd32569b9e207eb341e812a2fab4024"), looks := false }, kinds := [], alts := [], laidByText := true, laidKinds := [.wider], laidTests := true, laidLooks := .later }
def FnExactConvertUptoCardSaid : Prop := Claim7.holds Tryd.pinned (.plain (OpenSpec.upto fnExactConvertSpec)) fnExactConvertUptoCard

/-- THE SECOND FORM's CARD OF 'laws.FnExactRoundInt'. -/
def fnExactRoundIntUptoCard : Claim7 := { stood := { row := fnExactRoundIntUptoRow, standIns := [], harness := (true, "021c36e8db4420138d295071724a60be8fd32569b9e207eb341e812a2fab4024"), looks := false }, kinds := [], alts := [], laidByText := true, laidKinds := [.wider], laidTests := true, laidLooks := .later }
def FnExactRoundIntUptoCardSaid : Prop := Claim7.holds Tryd.pinned (.plain (OpenSpec.upto fnExactRoundIntSpec)) fnExactRoundIntUptoCard
end Rows
end Go.Proofs.YtfakbjgbbcigpaaDoor
