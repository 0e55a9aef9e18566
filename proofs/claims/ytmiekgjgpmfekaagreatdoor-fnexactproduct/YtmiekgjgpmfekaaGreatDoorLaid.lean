import Derived.Test.YtmiekgjgpmfekaaGreatDoorK2
import Derived.Test.YtmiekgjgpmfekaaGreatDoorRows
import Derived.LaidMore
import Derived.OpenShut
import Derived.ChangeSame
import Derived.ChangeVars
import Derived.Stop.Joined
import Derived.Deep.Strs
set_option linter.all false
set_option maxRecDepth 1000000
namespace Go.Proofs.YtmiekgjgpmfekaaGreatDoor
variable{W W' w:World}{base fuel:Nat}{held:Bool}{t:TypeId}{k:IntKind}{c:Value}
open Go.ChangeShapes Go.WideShapes Go.ChangeAt Go.RowKit
abbrev EP:List (String × DataW Unit):=[("loop.example/s01330/impl.formats",Rows.laid_loop_example_s01330_impl_formats)]
theorem aIs:ownKnob Tryz.prog.godebug=none:=by kernel_rfl
theorem gF:Tryz.prog.globalNamed "loop.example/s01330/impl.formats" =some 0:=by kernel_rfl
theorem tF:(Tryz.prog.globals[0]?).map (·.type)=some 165:=by kernel_rfl
theorem JI:Tryz.prog.cellsOf 165=6:=by kernel_rfl
theorem Ry:Tryz.prog.cellsOf 116=3:=by kernel_rfl
theorem Rx:Tryz.prog.cellsOf 3=1:=by kernel_rfl
theorem door_met(os:Os)(args:Array Value):laidMetH Tryz.prog EP ((World.doorLaid Tryz.prog 16 os).forCall (fun _ _=>0) ⟨#[],args,[]⟩).memory :=
 laidMetH_of_parts3 (fuel:=8) (laidMet_of_run' 8 (by kernel_rfl) (by kernel_rfl)) (by kernel_rfl) (by kernel_rfl)
def fJ:Array Value:=#[.int .i64 24,.int .i64 (-126),.int .i64 127,.int .i64 53,.int .i64 (-1022),.int .i64 1023]
theorem int_of_trod{H:Type}{enc:TypeId × Value->H}{P:Program}{sp:Nat->Bool}{y:DataW H × List MemPlace}
  (ht:P.underlying t=some (.int k)) (h:DataW.trod enc P w base sp held fuel t [c]=some y):∃n,c=.int k n/\y=(.lit (.int k n),[]):=by
 cases fuel with
 |zero=>simp[DataW.trod]at h
 |succ fuel=>
  cases c<;>simp[DataW.trod,ht]at h
  rename_i k' n
  obtain⟨⟨rfl,_⟩,rfl⟩:=h;exact⟨n,rfl,rfl⟩
theorem cells_of_laid(h:laidMetH Tryz.prog EP W):W.var? Tryz.prog "loop.example/s01330/impl.formats" =some fJ:=by
 rw[MakeChecks.laidMetH_plain _ _ _ (by kernel_rfl)]at h;obtain⟨ps,⟨g,t,cs,fuel,p,q,hg,ht,hvar,hd,_,_⟩,_⟩:=h;obtain rfl:=Option.some.inj (gF.symm.trans hg);obtain rfl:=Option.some.inj (tF.symm.trans ht);rw[hvar]
 congr 1
 obtain⟨l⟩:=cs;obtain⟨xs,m,_,hx,hl,hn,hel⟩:=DataW.trod_array Tryz.underlying165 hd;rw[JI]at hl;rw[Ry]at hel
 match l,hl with
 |[c0,c1,c2,c3,c4,c5],_=>
  match xs,hn with
  |[x0,x1],_=>
   have h0:=hel 0 de;have h1:=hel 1 de;obtain⟨y0,y1,y2,m0,rfl,_,e0,e1,e2⟩:=Go.Deep.trod_struct3 Tryz.underlying116 (show DataW.trod _ Tryz.prog W 0 _ false m 116 [c0,c1,c2]=some x0 from h0);obtain⟨y3,y4,y5,m1,rfl,_,e3,e4,e5⟩:=Go.Deep.trod_struct3 Tryz.underlying116 (show DataW.trod _ Tryz.prog W 0 _ false m 116 [c3,c4,c5]=some x1 from h1);dsimp only at e0 e1 e2 e3 e4 e5;rw[Rx]at e0 e1 e2 e3 e4 e5;obtain⟨n0,rfl,rfl⟩:=int_of_trod Tryz.underlying3 (show DataW.trod _ Tryz.prog W 0 _ false m0 3 [c0]=some y0 from e0);obtain⟨n1,rfl,rfl⟩:=int_of_trod Tryz.underlying3 (show DataW.trod _ Tryz.prog W 0 _ false m0 3 [c1]=some y1 from e1);obtain⟨n2,rfl,rfl⟩:=int_of_trod Tryz.underlying3 (show DataW.trod _ Tryz.prog W 0 _ false m0 3 [c2]=some y2 from e2);obtain⟨n3,rfl,rfl⟩:=int_of_trod Tryz.underlying3 (show DataW.trod _ Tryz.prog W 0 _ false m1 3 [c3]=some y3 from e3);obtain⟨n4,rfl,rfl⟩:=int_of_trod Tryz.underlying3 (show DataW.trod _ Tryz.prog W 0 _ false m1 3 [c4]=some y4 from e4);obtain⟨n5,rfl,rfl⟩:=int_of_trod Tryz.underlying3 (show DataW.trod _ Tryz.prog W 0 _ false m1 3 [c5]=some y5 from e5);simp[Rows.laid_loop_example_s01330_impl_formats]at hx;obtain⟨⟨⟨rfl,rfl,rfl⟩,⟨rfl,rfl,rfl⟩⟩,_⟩:=hx;rfl
theorem Rj(h:laidMetH Tryz.prog EP W):Fm W:=by
 have hv:=cells_of_laid h;exact⟨World.var?_cell gF hv 0,World.var?_cell gF hv 1,World.var?_cell gF hv 2,World.var?_cell gF hv 3,World.var?_cell gF hv 4,World.var?_cell gF hv 5⟩
abbrev vC{H:Type}:DataW H:=.agg [.agg [.lit (.int .i64 24),.lit (.int .i64 (-126)),.lit (.int .i64 127)],.agg [.lit (.int .i64 53),.lit (.int .i64 (-1022)),.lit (.int .i64 1023)]]
theorem reads_table{H:Type}(enc:TypeId × Value->H)(W:World)(sp:Nat->Bool):DataW.trod enc Tryz.prog W 0 sp true 4 165 fJ.toList=some (vC,[]):=by kernel_rfl
theorem var_below(hb:Gb W W')(hv:W.var? Tryz.prog "loop.example/s01330/impl.formats" =some fJ):W'.var? Tryz.prog "loop.example/s01330/impl.formats" =some fJ:=by
 have hsz:=au (World.var?_cell gF hv 0);simp only[World.var?,gF,Option.bind_some]at hv⊢
 rw[Below.block hb 0 hsz];exact hv
theorem jX{H:Type}(enc:TypeId × Value->H)(hb:Gb W W')(hv:W.var? Tryz.prog "loop.example/s01330/impl.formats" =some fJ)(sp:Nat->Bool):
  DataW.TrodVars enc Tryz.prog W' sp ["loop.example/s01330/impl.formats"] [vC] (MemPlace.row ⟨0,0,none⟩ fJ.size++[]++[]):=
 ⟨0,165,fJ,4,[],[],gF,tF,var_below hb hv,reads_table enc W' sp,rfl,rfl⟩
theorem jy{H:Type}{enc:TypeId × Value->H}{gs:List (DataW H)}{q:List MemPlace}(hL:laidMetH Tryz.prog EP W)(hV:DataW.TrodVars enc Tryz.prog W (fun _=>true) ["loop.example/s01330/impl.formats"] gs q):gs=[vC]:=by
 obtain⟨g,t,cs,fuel,d,p',rfl,hg,ht,hvar,hd,rfl⟩:=trodVars_one hV;obtain rfl:=Option.some.inj (gF.symm.trans hg);obtain rfl:=Option.some.inj (tF.symm.trans ht);obtain rfl:cs=fJ:=Option.some.inj (hvar.symm.trans (cells_of_laid hL));obtain⟨rfl,rfl⟩:=DataW.Trod.unique (v:=.agg fJ) ⟨fuel,hd⟩ ⟨4,reads_table enc W _⟩;rfl
