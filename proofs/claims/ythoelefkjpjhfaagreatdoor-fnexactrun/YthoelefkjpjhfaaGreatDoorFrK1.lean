import Derived.Test.YthoelefkjpjhfaaGreatDoorRows
import Derived.ProofKit
import Derived.JoinedOf
namespace Go.Proofs.YthoelefkjpjhfaaGreatDoor.fnExactRun
open Go.ChangeShapes Go.WideShapes Go.ChangeAt Go.RowKit
theorem aPi:(Rows.fnExactRunRow.inPlace==Tryz.prog.inPlace 3)=true:=by kernel_rfl
theorem aPh:(Rows.fnExactRunRow.unfollowed==Tryz.prog.unfollowed 3)=true:=by kernel_rfl
end Go.Proofs.YthoelefkjpjhfaaGreatDoor.fnExactRun
