import Derived.Test.YthoelefkjpjhfaaGreatDoorRows
import Derived.ProofKit
import Derived.JoinedOf
namespace Go.Proofs.YthoelefkjpjhfaaGreatDoor.fnTop
open Go.ChangeShapes Go.WideShapes Go.ChangeAt Go.RowKit
theorem fk3:(Rows.fnTopRow.wf (OpenSpec.ofChange Rows.fnTopSpec)&&laidOutB Tryz.prog&&mapsRowed Tryz.prog)=true:=by kernel_rfl
end Go.Proofs.YthoelefkjpjhfaaGreatDoor.fnTop
