import Derived.Test.YthoelefkjpjhfaaGreatDoorRows
import Derived.ProofKit
import Derived.JoinedOf
namespace Go.Proofs.YthoelefkjpjhfaaGreatDoor.fnExactRun
open Go.ChangeShapes Go.WideShapes Go.ChangeAt Go.RowKit
theorem fk3:(Rows.fnExactRunRow.wf (OpenSpec.ofChange Rows.fnExactRunSpec)&&laidOutB Tryz.prog&&mapsRowed Tryz.prog)=true:=by kernel_rfl
end Go.Proofs.YthoelefkjpjhfaaGreatDoor.fnExactRun
