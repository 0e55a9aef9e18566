/-
  DERIVED. GIVEN WITH THE SEED: THE CARDS: each row of YtkflpogmhailhaaDoorRows.lean that lists a variable, with what it lists TIED to the program's text (the seventh form; the later family's looks); each row that meets fmt, with fmt's text TOLD by the authors' own Lean function (tested against real Go, not proved from fmt's source: count such statements apart). THE CARD IS WHAT COUNTS. Prove the row's statement (the work); the ties are given (YtkflpogmhailhaaDoorTie.lean); close each card by the builder's one call (the guide's Derived/Test/ToyasCard.lean, 'card_holds'). Laid BY PROGRAM, IN A SANDBOX (cutbox-door.mjs). By AI agents, Wed Nov 11 2026. No macro, syntax, notation, axiom, sorry.
-/
import Derived.Test.YtkflpogmhailhaaDoorRows
import GoSem.ClaimSeven
namespace Go.Proofs.YtkflpogmhailhaaDoor
namespace Rows

/-- THE TIED CARD OF 'laws.FnExactRem'. -/
def fnExactRemCard : Claim7 := { stood := { row := fnExactRemRow, standIns := [], harness := (true, "f83463467a9df9129816ea69d4fd5830351d9ea75e4159d1cc649dcb8965e2ba"), looks := false }, kinds := [], alts := [], laidByText := true, laidKinds := [.wider], laidTests := true, laidLooks := .later }
def FnExactRemCardSaid : Prop := Claim7.holds Tryd.pinned (.plain (OpenSpec.ofChange fnExactRemSpec)) fnExactRemCard

/-- THE TIED CARD OF 'laws.FnExactDiv'. -/
def fnExactDivCard : Claim7 := { stood := { row := fnExactDivRow, standIns := [], harness := (true, "f83463467a9df9129816ea69d4fd5830351d9ea75e4159d1cc649dcb8965e2ba"), looks := false }, kinds := [], alts := [], laidByText := true, laidKinds := [.wider], laidTests := true, laidLooks := .later }
def FnExactDivCardSaid : Prop := Claim7.holds Tryd.pinned (.plain (OpenSpec.ofChange fnExactDivSpec)) fnExactDivCard

/-- THE TIED CARD OF 'laws.FnExactSqrt'. -/
def fnExactSqrtCard : Claim7 := { stood := { row := fnExactSqrtRow, standIns := [], harness := (true, "f83463467a9df9129816ea69d4fd5830351d9ea75e4159d1cc649dcb8965e2ba"), looks := false }, kinds := [], alts := [], laidByText := true, laidKinds := [.wider], laidTests := true, laidLooks := .later }
def FnExactSqrtCardSaid : Prop := Claim7.holds Tryd.pinned (.plain (OpenSpec.ofChange fnExactSqrtSpec)) fnExactSqrtCard

/-- THE TIED CARD OF 'laws.FnExactAdd'. -/
def fnExactAddCard : Claim7 := { stood := { row := fnExactAddRow, standIns := [], harness := (true, "f83463467a9df9129816ea69d4fd5830351d9ea75e4159d1cc649dcb8965e2ba"), looks := false }, kinds := [], alts := [], laidByText := true, laidKinds := [.wider], laidTests := true, laidLooks := .later }
def FnExactAddCardSaid : Prop := Claim7.holds Tryd.pinned (.plain (OpenSpec.ofChange fnExactAddSpec)) fnExactAddCard

/-- THE TIED CARD OF 'laws.FnExactMul'. -/
def fnExactMulCard : Claim7 := { stood := { row := fnExactMulRow, standIns := [], harness := (true, "f83463467a9df9129816ea69d4fd5830351d9ea75e4159d1cc649dcb8965e2ba"), looks := false }, kinds := [], alts := [], laidByText := true, laidKinds := [.wider], laidTests := true, laidLooks := .later }
def FnExactMulCardSaid : Prop := Claim7.holds Tryd.pinned (.plain (OpenSpec.ofChange fnExactMulSpec)) fnExactMulCard

/-- THE TIED CARD OF 'laws.FnExactSub'. -/
def fnExactSubCard : Claim7 := { stood := { row := fnExactSubRow, standIns := [], harness := (true, "f83463467a9df9129816ea69d4fd5830351d9ea75e4159d1cc649dcb8965e2ba"), looks := false }, kinds := [], alts := [], laidByText := true, laidKinds := [.wider], laidTests := true, laidLooks := .later }
def FnExactSubCardSaid : Prop := Claim7.holds Tryd.pinned (.plain (OpenSpec.ofChange fnExactSubSpec)) fnExactSubCard

/-- THE TIED CARD OF 'laws.FnExactFma'. -/
def fnExactFmaCard : Claim7 := { stood := { row := fnExactFmaRow, standIns := [], harness := (true, "f83463467a9df9129816ea69d4fd5830351d9ea75e4159d1cc649dcb8965e2ba"), looks := false }, kinds := [], alts := [], laidByText := true, laidKinds := [.wider], laidTests := true, laidLooks := .later }
def FnExactFmaCardSaid : Prop := Claim7.holds Tryd.pinned (.plain (OpenSpec.ofChange fnExactFmaSpec)) fnExactFmaCard

/-- THE SECOND FORM's CARD OF 'laws.FnExactRem'. -/
def fnExactRemUptoCard : Claim7 := { stood := { row := fnExactRemUptoRow, standIns := [], harness := (true, "f83463467a9df9129816ea69d4fd5830351d9ea75e4159d1cc649dcb8965e2ba"), looks := false }, kinds := [], alts := [], laidByText := true, laidKinds := [.wider], laidTests := true, laidLooks := .later }
def FnExactRemUptoCardSaid : Prop := Claim7.holds Tryd.pinned (.plain (OpenSpec.upto fnExactRemSpec)) fnExactRemUptoCard

/-- THE SECOND FORM's CARD OF 'laws.FnExactDiv'. -/
def fnExactDivUptoCard : Claim7 := { stood := { row := fnExactDivUptoRow, standIns := [], harness := (true, "f83463467a9df9129816ea69d4fd5830351d9ea75e4159d1cc649dcb8965e2ba"), looks := false }, kinds := [], alts := [], laidByText := true, laidKinds := [.wider], laidTests := true, laidLooks := .later }
def FnExactDivUptoCardSaid : Prop := Claim7.holds Tryd.pinned (.plain (OpenSpec.upto fnExactDivSpec)) fnExactDivUptoCard

/-- THE SECOND FORM's CARD OF 'laws.FnExactSqrt'. -/
def fnExactSqrtUptoCard : Claim7 := { stood := { row := fnExactSqrtUptoRow, standIns := [], harness := (true, "f83463467a9df9129816ea69d4fd5830351d9ea75e4159d1cc649dcb8965e2ba"), looks := false }, kinds := [], alts := [], laidByText := true, laidKinds := [.wider], laidTests := true, laidLooks := .later }
def FnExactSqrtUptoCardSaid : Prop := Claim7.holds Tryd.pinned (.plain (OpenSpec.upto fnExactSqrtSpec)) fnExactSqrtUptoCard

/-- THE SECOND FORM's CARD OF 'laws.FnExactAdd'. -/
def fnExactAddUptoCard : Claim7 := { stood := { row := fnExactAddUptoRow, standIns := [], harness := (true, "f83463467a9df9129816ea69d4fd5830351d9ea75e4159d1cc649dcb8965e2ba"), looks := false }, kinds := [], alts := [], laidByText := true, laidKinds := [.wider], laidTests := true, laidLooks := .later }
def FnExactAddUptoCardSaid : Prop := Claim7.holds Tryd.pinned (.plain (OpenSpec.upto fnExactAddSpec)) fnExactAddUptoCard

/-- THE SECOND FORM's CARD OF 'laws.FnExactMul'. -/
def fnExactMulUptoCard : Claim7 := { stood := { row := fnExactMulUptoRow, standIns := [], harness := (true, "f83463467a9df9129816ea69d4fd5830351d9ea75e4159d1cc649dcb8965e2ba"), looks := false }, kinds := [], alts := [], laidByText := true, laidKinds := [.wider], laidTests := true, laidLooks := .later }
def FnExactMulUptoCardSaid : Prop := Claim7.holds Tryd.pinned (.plain (OpenSpec.upto fnExactMulSpec)) fnExactMulUptoCard

/-- THE SECOND FORM's CARD OF 'laws.FnExactSub'. -/
def fnExactSubUptoCard : Claim7 := { stood := { row := fnExactSubUptoRow, standIns := [], harness := (true, "f83463467a9df9129816ea69d4fd5830351d9ea75e4159d1cc649dcb8965e2ba"), looks := false }, kinds := [], alts := [], laidByText := true, laidKinds := [.wider], laidTests := true, laidLooks := .later }
def FnExactSubUptoCardSaid : Prop := Claim7.holds Tryd.pinned (.plain (OpenSpec.upto fnExactSubSpec)) fnExactSubUptoCard

/-- THE SECOND FORM's CARD OF 'laws.FnExactFma'. -/
def fnExactFmaUptoCard : Claim7 := { stood := { row := fnExactFmaUptoRow, standIns := [], harness := (true, "f83463467a9df9129816ea69d4fd5830351d9ea75e4159d1cc649dcb8965e2ba"), looks := false }, kinds := [], alts := [], laidByText := true, laidKinds := [.wider], laidTests := true, laidLooks := .later }
def FnExactFmaUptoCardSaid : Prop := Claim7.holds Tryd.pinned (.plain (OpenSpec.upto fnExactFmaSpec)) fnExactFmaUptoCard
end Rows
end Go.Proofs.YtkflpogmhailhaaDoor
