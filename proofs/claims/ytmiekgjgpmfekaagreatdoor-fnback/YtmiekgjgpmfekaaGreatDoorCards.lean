/-
  DERIVED. GIVEN WITH THE SEED: THE CARDS: each row of YtmiekgjgpmfekaaGreatDoorRows.lean that lists a variable, with what it lists TIED to the program's text (the seventh form; the later family's looks); each row that meets fmt, with fmt's text TOLD by the authors' own Lean function (tested against real Go, not proved from fmt's source: count such statements apart). THE CARD IS WHAT COUNTS. Prove the row's statement (the work); the ties are given (YtmiekgjgpmfekaaGreatDoorTie.lean); close each card by the builder's one call (the guide's Derived/Test/ToyasCard.lean, 'card_holds'). Laid BY PROGRAM, IN A SANDBOX (cutbox-door.mjs). By AI agents, Wed Nov 11 2026. No macro, syntax, notation, axiom, sorry.
-/
import Derived.Test.YtmiekgjgpmfekaaGreatDoorRows
import GoSem.ClaimSeven
namespace Go.Proofs.YtmiekgjgpmfekaaGreatDoor
namespace Rows

/-- THE TIED CARD OF 'laws.FnExactRoots'. -/
def fnExactRootsCard : Claim7 := { stood := { row := fnExactRootsRow, standIns := [], harness := (true, "4a6e21431519bc8fa0358fc74cf5071266168f51db2d33ec99ab440d42f880d6"), looks := false }, kinds := [], alts := [], laidByText := true, laidKinds := [.wider], laidTests := true, laidLooks := .later }
def FnExactRootsCardSaid : Prop := Claim7.holds Tryz.pinned (.plain (OpenSpec.ofChange fnExactRootsSpec)) fnExactRootsCard

/-- THE TIED CARD OF 'laws.FnExactTransform'. -/
def fnExactTransformCard : Claim7 := { stood := { row := fnExactTransformRow, standIns := [], harness := (true, "4a6e21431519bc8fa0358fc74cf5071266168f51db2d33ec99ab440d42f880d6"), looks := false }, kinds := [], alts := [], laidByText := true, laidKinds := [.wider], laidTests := true, laidLooks := .later }
def FnExactTransformCardSaid : Prop := Claim7.holds Tryz.pinned (.plain (OpenSpec.ofChange fnExactTransformSpec)) fnExactTransformCard

/-- THE TIED CARD OF 'laws.FnExactSample'. -/
def fnExactSampleCard : Claim7 := { stood := { row := fnExactSampleRow, standIns := [], harness := (true, "4a6e21431519bc8fa0358fc74cf5071266168f51db2d33ec99ab440d42f880d6"), looks := false }, kinds := [], alts := [], laidByText := true, laidKinds := [.wider, .data, .data], laidTests := true, laidLooks := .later }
def FnExactSampleCardSaid : Prop := Claim7.holds Tryz.pinned (.plain (OpenSpec.ofChange fnExactSampleSpec)) fnExactSampleCard

/-- THE TIED CARD OF 'laws.FnExactBack'. -/
def fnExactBackCard : Claim7 := { stood := { row := fnExactBackRow, standIns := [], harness := (true, "4a6e21431519bc8fa0358fc74cf5071266168f51db2d33ec99ab440d42f880d6"), looks := false }, kinds := [], alts := [], laidByText := true, laidKinds := [.wider], laidTests := true, laidLooks := .later }
def FnExactBackCardSaid : Prop := Claim7.holds Tryz.pinned (.plain (OpenSpec.ofChange fnExactBackSpec)) fnExactBackCard

/-- THE TIED CARD OF 'laws.FnProduct'. -/
def fnProductCard : Claim7 := { stood := { row := fnProductRow, standIns := [], harness := (true, "4a6e21431519bc8fa0358fc74cf5071266168f51db2d33ec99ab440d42f880d6"), looks := false }, kinds := [], alts := [], laidByText := true, laidKinds := [.wider], laidTests := true, laidLooks := .later }
def FnProductCardSaid : Prop := Claim7.holds Tryz.pinned (.plain (OpenSpec.ofChange fnProductSpec)) fnProductCard

/-- THE TIED CARD OF 'laws.FnExactProduct'. -/
def fnExactProductCard : Claim7 := { stood := { row := fnExactProductRow, standIns := [], harness := (true, "4a6e21431519bc8fa0358fc74cf5071266168f51db2d33ec99ab440d42f880d6"), looks := false }, kinds := [], alts := [], laidByText := true, laidKinds := [.wider], laidTests := true, laidLooks := .later }
def FnExactProductCardSaid : Prop := Claim7.holds Tryz.pinned (.plain (OpenSpec.ofChange fnExactProductSpec)) fnExactProductCard

/-- THE TIED CARD OF 'laws.FnBack'. -/
def fnBackCard : Claim7 := { stood := { row := fnBackRow, standIns := [], harness := (true, "4a6e21431519bc8fa0358fc74cf5071266168f51db2d33ec99ab440d42f880d6"), looks := false }, kinds := [], alts := [], laidByText := true, laidKinds := [.wider], laidTests := true, laidLooks := .later }
def FnBackCardSaid : Prop := Claim7.holds Tryz.pinned (.plain (OpenSpec.ofChange fnBackSpec)) fnBackCard

/-- THE TIED CARD OF 'laws.FnSample'. -/
def fnSampleCard : Claim7 := { stood := { row := fnSampleRow, standIns := [], harness := (true, "4a6e21431519bc8fa0358fc74cf5071266168f51db2d33ec99ab440d42f880d6"), looks := false }, kinds := [], alts := [], laidByText := true, laidKinds := [.wider, .data, .data], laidTests := true, laidLooks := .later }
def FnSampleCardSaid : Prop := Claim7.holds Tryz.pinned (.plain (OpenSpec.ofChange fnSampleSpec)) fnSampleCard

/-- THE SECOND FORM's CARD OF 'laws.FnExactRoots'. -/
def fnExactRootsUptoCard : Claim7 := { stood := { row := fnExactRootsUptoRow, standIns := [], harness := (true, "4a6e21431519bc8fa0358fc74cf5071266168f51db2d33ec99ab440d42f880d6"), looks := false }, kinds := [], alts := [], laidByText := true, laidKinds := [.wider], laidTests := true, laidLooks := .later }
def FnExactRootsUptoCardSaid : Prop := Claim7.holds Tryz.pinned (.plain (OpenSpec.upto fnExactRootsSpec)) fnExactRootsUptoCard

/-- THE SECOND FORM's CARD OF 'laws.FnExactTransform'. -/
def fnExactTransformUptoCard : Claim7 := { stood := { row := fnExactTransformUptoRow, standIns := [], harness := (true, "4a6e21431519bc8fa0358fc74cf5071266168f51db2d33ec99ab440d42f880d6"), looks := false }, kinds := [], alts := [], laidByText := true, laidKinds := [.wider], laidTests := true, laidLooks := .later }
def FnExactTransformUptoCardSaid : Prop := Claim7.holds Tryz.pinned (.plain (OpenSpec.upto fnExactTransformSpec)) fnExactTransformUptoCard

/-- THE SECOND FORM's CARD OF 'laws.FnExactSample'. -/
def fnExactSampleUptoCard : Claim7 := { stood := { row := fnExactSampleUptoRow, standIns := [], harness := (true, "4a6e21431519bc8fa0358fc74cf5071266168f51db2d33ec99ab440d42f880d6"), looks := false }, kinds := [], alts := [], laidByText := true, laidKinds := [.wider, .data, .data], laidTests := true, laidLooks := .later }
def FnExactSampleUptoCardSaid : Prop := Claim7.holds Tryz.pinned (.plain (OpenSpec.upto fnExactSampleSpec)) fnExactSampleUptoCard

/-- THE SECOND FORM's CARD OF 'laws.FnExactBack'. -/
def fnExactBackUptoCard : Claim7 := { stood := { row := fnExactBackUptoRow, standIns := [], harness := (true, "4a6e21431519bc8fa0358fc74cf5071266168f51db2d33ec99ab440d42f880d6"), looks := false }, kinds := [], alts := [], laidByText := true, laidKinds := [.wider], laidTests := true, laidLooks := .later }
def FnExactBackUptoCardSaid : Prop := Claim7.holds Tryz.pinned (.plain (OpenSpec.upto fnExactBackSpec)) fnExactBackUptoCard

/-- THE SECOND FORM's CARD OF 'laws.FnProduct'. -/
def fnProductUptoCard : Claim7 := { stood := { row := fnProductUptoRow, standIns := [], harness := (true, "4a6e21431519bc8fa0358fc74cf5071266168f51db2d33ec99ab440d42f880d6"), looks := false }, kinds := [], alts := [], laidByText := true, laidKinds := [.wider], laidTests := true, laidLooks := .later }
def FnProductUptoCardSaid : Prop := Claim7.holds Tryz.pinned (.plain (OpenSpec.upto fnProductSpec)) fnProductUptoCard

/-- THE SECOND FORM's CARD OF 'laws.FnExactProduct'. -/
def fnExactProductUptoCard : Claim7 := { stood := { row := fnExactProductUptoRow, standIns := [], harness := (true, "4a6e21431519bc8fa0358fc74cf5071266168f51db2d33ec99ab440d42f880d6"), looks := false }, kinds := [], alts := [], laidByText := true, laidKinds := [.wider], laidTests := true, laidLooks := .later }
def FnExactProductUptoCardSaid : Prop := Claim7.holds Tryz.pinned (.plain (OpenSpec.upto fnExactProductSpec)) fnExactProductUptoCard

/-- THE SECOND FORM's CARD OF 'laws.FnBack'. -/
def fnBackUptoCard : Claim7 := { stood := { row := fnBackUptoRow, standIns := [], harness := (true, "4a6e21431519bc8fa0358fc74cf5071266168f51db2d33ec99ab440d42f880d6"), looks := false }, kinds := [], alts := [], laidByText := true, laidKinds := [.wider], laidTests := true, laidLooks := .later }
def FnBackUptoCardSaid : Prop := Claim7.holds Tryz.pinned (.plain (OpenSpec.upto fnBackSpec)) fnBackUptoCard

/-- THE SECOND FORM's CARD OF 'laws.FnSample'. -/
def fnSampleUptoCard : Claim7 := { stood := { row := fnSampleUptoRow, standIns := [], harness := (true, "4a6e21431519bc8fa0358fc74cf5071266168f51db2d33ec99ab440d42f880d6"), looks := false }, kinds := [], alts := [], laidByText := true, laidKinds := [.wider, .data, .data], laidTests := true, laidLooks := .later }
def FnSampleUptoCardSaid : Prop := Claim7.holds Tryz.pinned (.plain (OpenSpec.upto fnSampleSpec)) fnSampleUptoCard
end Rows
end Go.Proofs.YtmiekgjgpmfekaaGreatDoor
