import Derived.Test.YthoelefkjpjhfaaGreatDoorRows
import Derived.SevenTiedAt
namespace Go.Proofs.YthoelefkjpjhfaaGreatDoor.fnExactRun
theorem fkG:false=Rows.fnExactRunRow.goesBy Tryz.prog:=by kernel_rfl
end Go.Proofs.YthoelefkjpjhfaaGreatDoor.fnExactRun
