import Derived.Test.YthoelefkjpjhfaaGreatDoorRows
import Derived.SevenTiedAt
namespace Go.Proofs.YthoelefkjpjhfaaGreatDoor.fnTop
theorem fkG:false=Rows.fnTopRow.goesBy Tryz.prog:=by kernel_rfl
end Go.Proofs.YthoelefkjpjhfaaGreatDoor.fnTop
