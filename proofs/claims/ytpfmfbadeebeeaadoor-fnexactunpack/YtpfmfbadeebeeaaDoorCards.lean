/-
  DERIVED. GIVEN WITH THE SEED: THE CARDS: each row of YtpfmfbadeebeeaaDoorRows.lean that lists a variable, with what it lists TIED to the program's text (the seventh form; the later family's looks); each row that meets fmt, with fmt's text TOLD by the authors' own Lean function (tested against real Go, not proved from fmt's source: count such statements apart). THE CARD IS WHAT COUNTS. Prove the row's statement (the work); the ties are given (YtpfmfbadeebeeaaDoorTie.lean); close each card by the builder's one call (the guide's Derived/Test/ToyasCard.lean, 'card_holds'). Laid BY PROGRAM, IN A SANDBOX (cutbox-door.mjs). By AI agents, Wed Nov 11 2026. No macro, syntax, notation, axiom, sorry.
-/
import Derived.Test.YtpfmfbadeebeeaaDoorRows
import GoSem.ClaimSeven
namespace Go.Proofs.YtpfmfbadeebeeaaDoor
namespace Rows

/-- THE TIED CARD OF 'laws.FnExactUnpack'. -/
def fnExactUnpackCard : Claim7 := { stood := { row := fnExactUnpackRow, standIns := [], harness := (true, "f094612e8d88a401f487eb90c1a15634bf8ac7c3b135a51c04712fc747967404"), looks := false }, kinds := [], alts := [], laidByText := true, laidKinds := [.wider], laidTests := true, laidLooks := .later }
def FnExactUnpackCardSaid : Prop := Claim7.holds Tryd.pinned (.plain (OpenSpec.ofChange fnExactUnpackSpec)) fnExactUnpackCard

/-- THE TIED CARD OF 'laws.FnExactNextUp'. -/
def fnExactNextUpCard : Claim7 := { stood := { row := fnExactNextUpRow, standIns := [], harness := (true, "f094612e8d88a401f487eb90c1a15634bf8ac7c3b135a51c04712fc747967404"), looks := false }, kinds := [], alts := [], laidByText := true, laidKinds := [.wider], laidTests := true, laidLooks := .later }
def FnExactNextUpCardSaid : Prop := Claim7.holds Tryd.pinned (.plain (OpenSpec.ofChange fnExactNextUpSpec)) fnExactNextUpCard

/-- THE TIED CARD OF 'laws.FnExactRoundPack'. -/
def fnExactRoundPackCard : Claim7 := { stood := { row := fnExactRoundPackRow, standIns := [], harness := (true, "f094612e8d88a401f487eb90c1a15634bf8ac7c3b135a51c04712fc747967404"), looks := false }, kinds := [], alts := [], laidByText := true, laidKinds := [.wider], laidTests := true, laidLooks := .later }
def FnExactRoundPackCardSaid : Prop := Claim7.holds Tryd.pinned (.plain (OpenSpec.ofChange fnExactRoundPackSpec)) fnExactRoundPackCard

/-- THE TIED CARD OF 'laws.FnExactAdd'. -/
def fnExactAddCard : Claim7 := { stood := { row := fnExactAddRow, standIns := [], harness := (true, "f094612e8d88a401f487eb90c1a15634bf8ac7c3b135a51c04712fc747967404"), looks := false }, kinds := [], alts := [], laidByText := true, laidKinds := [.wider], laidTests := true, laidLooks := .later }
def FnExactAddCardSaid : Prop := Claim7.holds Tryd.pinned (.plain (OpenSpec.ofChange fnExactAddSpec)) fnExactAddCard

/-- THE TIED CARD OF 'laws.FnExactMul'. -/
def fnExactMulCard : Claim7 := { stood := { row := fnExactMulRow, standIns := [], harness := (true, "f094612e8d88a401f487eb90c1a15634bf8ac7c3b135a51c04712fc747967404"), looks := false }, kinds := [], alts := [], laidByText := true, laidKinds := [.wider], laidTests := true, laidLooks := .later }
def FnExactMulCardSaid : Prop := Claim7.holds Tryd.pinned (.plain (OpenSpec.ofChange fnExactMulSpec)) fnExactMulCard

/-- THE TIED CARD OF 'laws.FnExactSub'. -/
def fnExactSubCard : Claim7 := { stood := { row := fnExactSubRow, standIns := [], harness := (true, "f094612e8d88a401f487eb90c1a15634bf8ac7c3b135a51c04712fc747967404"), looks := false }, kinds := [], alts := [], laidByText := true, laidKinds := [.wider], laidTests := true, laidLooks := .later }
def FnExactSubCardSaid : Prop := Claim7.holds Tryd.pinned (.plain (OpenSpec.ofChange fnExactSubSpec)) fnExactSubCard

/-- THE SECOND FORM's CARD OF 'laws.FnExactUnpack'. -/
def fnExactUnpackUptoCard : Claim7 := { stood := { row := fnExactUnpackUptoRow, standIns := [], harness := (true, "f094612e8d88a401f487eb90c1a15634bf8ac7c3b135a51c04712fc747967404"), looks := false }, kinds := [], alts := [], laidByText := true, laidKinds := [.wider], laidTests := true, laidLooks := .later }
def FnExactUnpackUptoCardSaid : Prop := Claim7.holds Tryd.pinned (.plain (OpenSpec.upto fnExactUnpackSpec)) fnExactUnpackUptoCard

/-- THE SECOND FORM's CARD OF 'laws.FnExactNextUp'. -/
def fnExactNextUpUptoCard : Claim7 := { stood := { row := fnExactNextUpUptoRow, standIns := [], harness := (true, "f094612e8d88a401f487eb90c1a15634bf8ac7c3b135a51c04712fc747967404"), looks := false }, kinds := [], alts := [], laidByText := true, laidKinds := [.wider], laidTests := true, laidLooks := .later }
def FnExactNextUpUptoCardSaid : Prop := Claim7.holds Tryd.pinned (.plain (OpenSpec.upto fnExactNextUpSpec)) fnExactNextUpUptoCard

/-- THE SECOND FORM's CARD OF 'laws.FnExactRoundPack'. -/
def fnExactRoundPackUptoCard : Claim7 := { stood := { row := fnExactRoundPackUptoRow, standIns := [], harness := (true, "f094612e8d88a401f487eb90c1a15634bf8ac7c3b135a51c04712fc747967404"), looks := false }, kinds := [], alts := [], laidByText := true, laidKinds := [.wider], laidTests := true, laidLooks := .later }
def FnExactRoundPackUptoCardSaid : Prop := Claim7.holds Tryd.pinned (.plain (OpenSpec.upto fnExactRoundPackSpec)) fnExactRoundPackUptoCard

/-- THE SECOND FORM's CARD OF 'laws.FnExactAdd'. -/
def fnExactAddUptoCard : Claim7 := { stood := { row := fnExactAddUptoRow, standIns := [], harness := (true, "f094612e8d88a401f487eb90c1a15634bf8ac7c3b135a51c04712fc747967404"), looks := false }, kinds := [], alts := [], laidByText := true, laidKinds := [.wider], laidTests := true, laidLooks := .later }
def FnExactAddUptoCardSaid : Prop := Claim7.holds Tryd.pinned (.plain (OpenSpec.upto fnExactAddSpec)) fnExactAddUptoCard

/-- THE SECOND FORM's CARD OF 'laws.FnExactMul'. -/
def fnExactMulUptoCard : Claim7 := { stood := { row := fnExactMulUptoRow, standIns := [], harness := (true, "f094612e8d88a401f487eb90c1a15634bf8ac7c3b135a51c04712fc747967404"), looks := false }, kinds := [], alts := [], laidByText := true, laidKinds := [.wider], laidTests := true, laidLooks := .later }
def FnExactMulUptoCardSaid : Prop := Claim7.holds Tryd.pinned (.plain (OpenSpec.upto fnExactMulSpec)) fnExactMulUptoCard

/-- THE SECOND FORM's CARD OF 'laws.FnExactSub'. -/
def fnExactSubUptoCard : Claim7 := { stood := { row := fnExactSubUptoRow, standIns := [], harness := (true, "f094612e8d88a401f487eb90c1a15634bf8ac7c3b135a51c04712fc747967404"), looks := false }, kinds := [], alts := [], laidByText := true, laidKinds := [.wider], laidTests := true, laidLooks := .later }
def FnExactSubUptoCardSaid : Prop := Claim7.holds Tryd.pinned (.plain (OpenSpec.upto fnExactSubSpec)) fnExactSubUptoCard
end Rows
end Go.Proofs.YtpfmfbadeebeeaaDoor
