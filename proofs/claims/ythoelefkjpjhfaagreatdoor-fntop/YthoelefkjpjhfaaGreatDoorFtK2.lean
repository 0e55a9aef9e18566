import Derived.Test.YthoelefkjpjhfaaGreatDoorRows
import Derived.ProofKit
import Derived.JoinedOf
namespace Go.Proofs.YthoelefkjpjhfaaGreatDoor.fnTop
open Go.ChangeShapes Go.WideShapes Go.ChangeAt Go.RowKit
theorem aPg:(Rows.fnTopRow.recurses==Tryz.prog.recurses 4)=true:=by kernel_rfl
theorem aPf:(Rows.fnTopRow.named==Tryz.prog.varsNamed 4)=true:=by kernel_rfl
end Go.Proofs.YthoelefkjpjhfaaGreatDoor.fnTop
