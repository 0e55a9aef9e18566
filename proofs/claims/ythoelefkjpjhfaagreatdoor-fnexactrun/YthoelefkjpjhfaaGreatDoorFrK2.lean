import Derived.Test.YthoelefkjpjhfaaGreatDoorRows
import Derived.ProofKit
import Derived.JoinedOf
namespace Go.Proofs.YthoelefkjpjhfaaGreatDoor.fnExactRun
open Go.ChangeShapes Go.WideShapes Go.ChangeAt Go.RowKit
theorem aPg:(Rows.fnExactRunRow.recurses==Tryz.prog.recurses 3)=true:=by kernel_rfl
theorem aPf:(Rows.fnExactRunRow.named==Tryz.prog.varsNamed 3)=true:=by kernel_rfl
end Go.Proofs.YthoelefkjpjhfaaGreatDoor.fnExactRun
