import Derived.Test.YtmiekgjgpmfekaaGreatDoorQa
import Derived.Test.YtmiekgjgpmfekaaGreatDoorT8
set_option linter.all false
namespace Go.Proofs.YtmiekgjgpmfekaaGreatDoor
variable{W:World}
open Go.ChangeShapes Go.WideShapes Go.ChangeAt Go.RowKit
abbrev xB:String:= "loop.example/s01330/impl.tails"
theorem gT:Tryz.prog.globalNamed xB=some 1:=by kernel_rfl
theorem tT:(Tryz.prog.globals[1]?).map (·.type)=some 217:=by kernel_rfl
theorem aFv:Tryz.prog.cellsOf 217=18:=by kernel_rfl
theorem aFN:(aGe DW).toArray =qI:=rfl
theorem Yv{H:Type}(enc:TypeId × Value->H)(W:World)(sp:Nat->Bool):DataW.trod enc Tryz.prog W 0 sp true 4 217 qI.toList=some (PD DW,[]):=by kernel_rfl
theorem aHO(h:∃g t cs fuel p sp,Tryz.prog.globalNamed xB=some g/\(Tryz.prog.globals[g]?).map (·.type)=some t/\W.var? Tryz.prog xB=some cs/\DataW.trod (fun _=>()) Tryz.prog W 0 sp false fuel t cs.toList=some (Rows.laid_loop_example_s01330_impl_tails,p)):W.var? Tryz.prog xB=some qI:=
 Bg (ns:=DW) gT tT Tryz.underlying217 aFv h
theorem Us(h:W.var? Tryz.prog xB=some qI):Tl W:=uY gT h
open Go.ChangeShapes Go.WideShapes Go.ChangeAt Go.RowKit
abbrev xC:String:= "loop.example/s01330/impl.decays"
theorem gD:Tryz.prog.globalNamed xC=some 2:=by kernel_rfl
theorem tD:(Tryz.prog.globals[2]?).map (·.type)=some 218:=by kernel_rfl
theorem cellsD:Tryz.prog.cellsOf 218=38:=by kernel_rfl
theorem Yw{H:Type}(enc:TypeId × Value->H)(W:World)(sp:Nat->Bool):DataW.trod enc Tryz.prog W 0 sp true 4 218 lN.toList=some (PD vw,[]):=by kernel_rfl
theorem aHP(h:∃g t cs fuel p sp,Tryz.prog.globalNamed xC=some g/\(Tryz.prog.globals[g]?).map (·.type)=some t/\W.var? Tryz.prog xC=some cs/\DataW.trod (fun _=>()) Tryz.prog W 0 sp false fuel t cs.toList=some (Rows.laid_loop_example_s01330_impl_decays,p)):W.var? Tryz.prog xC=some lN:=
 Bg (ns:=vw) gD tD Tryz.underlying218 cellsD h
theorem Wi(h:W.var? Tryz.prog xC=some lN):Dc W:=uY gD h
