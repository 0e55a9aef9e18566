import Derived.Test.YtmiekgjgpmfekaaGreatDoorRows
import Derived.LaidMore
import Derived.OpenShut
import Derived.ChangeSame
import Derived.ChangeVars
import Derived.Stop.Joined
import Derived.Deep.Strs
import Derived.Lib.LaidTab
import Derived.Test.YtmiekgjgpmfekaaGreatDoorK2
set_option linter.all false
open Option renaming some → J
namespace Go.Proofs.YtmiekgjgpmfekaaGreatDoor
variable{W W' w:World}{g n base fuel:Nat}{t e:TypeId}{cs:Array Value}{k:IntKind}{held:Bool}{c:Value}
open Go.ChangeShapes Go.WideShapes Go.ChangeAt Go.RowKit
theorem YR:ownKnob Tryz.prog.godebug=none:=by kernel_rfl
theorem aFu:Tryz.prog.cellsOf 33=1:=by kernel_rfl
abbrev PD{H:Type}(ns:List Int):DataW H:=.agg (ns.map fun n=>.lit (.int .u64 n))
abbrev aGe(ns:List Int):List Value:=ns.map fun n=>.int .u64 n
theorem uY{name:String}(hg:Tryz.prog.globalNamed name=J g)(hv:W.var? Tryz.prog name=J cs):∃t fr,W.heap[g]?=J (.cells cs t fr):=by
 simp only[World.var?,hg,Option.bind_some]at hv;split at hv
 ·rename_i c t fr e
  obtain rfl:=Option.some.inj hv;exact⟨t,fr,e⟩
 ·cases hv
theorem uq{name:String}(hg:Tryz.prog.globalNamed name=J g)(hb:Below W.heap.size W W')(hv:W.var? Tryz.prog name=J cs):W'.var? Tryz.prog name=J cs:=by
 obtain⟨t,fr,h⟩:=uY hg hv;have hs:g<W.heap.size:=by
  rcases Nat.lt_or_ge g W.heap.size with k|k
  ·exact k
  ·simp[k]at h
 simp only[World.var?,hg,Option.bind_some];rw[Below.block hb g hs,h]
theorem qV{name:String}{d:DataW Unit}{rest:List (String × DataW Unit)}(h:∃ps,DataW.LaidVars Tryz.prog W ((name,d)::rest) ps):
  (∃g t cs fuel p sp,Tryz.prog.globalNamed name=J g/\(Tryz.prog.globals[g]?).map (·.type)=J t/\W.var? Tryz.prog name=J cs/\DataW.trod (fun _=>()) Tryz.prog W 0 sp false fuel t cs.toList=J (d,p))/\∃ps,DataW.LaidVars Tryz.prog W rest ps:=by
 obtain⟨ps,g,t,cs,fuel,p,q,hg,ht,hvar,hd,hr,_⟩:=h;exact⟨⟨g,t,cs,fuel,p,_,hg,ht,hvar,hd⟩,q,hr⟩
theorem OY{name:String}{ns:List Int}(hg:Tryz.prog.globalNamed name=J g)(ht:(Tryz.prog.globals[g]?).map (·.type)=J t)(hu:Tryz.prog.underlying t=J (.array n e))(he:Tryz.prog.underlying e=J (.int k))(hce:Tryz.prog.cellsOf e=1)(hT:Tryz.prog.cellsOf t=n)
  (h:∃g t cs fuel p sp,Tryz.prog.globalNamed name=J g/\(Tryz.prog.globals[g]?).map (·.type)=J t/\W.var? Tryz.prog name=J cs/\DataW.trod (fun _=>()) Tryz.prog W 0 sp false fuel t cs.toList=J (Lib.tabData k ns,p)):Lib.TabIs Tryz.prog W name k ns:=by
 obtain⟨g',t',cs,fuel,p,sp,hg',ht',hv,hd⟩:=h;obtain rfl:=Option.some.inj (hg.symm.trans hg');obtain rfl:=Option.some.inj (ht.symm.trans ht');unfold Lib.TabIs;rw[hv,<-Lib.cells_of_tab hu he hce hT hd]
theorem Bg{name:String}{ns:List Int}(hg:Tryz.prog.globalNamed name=J g)(ht:(Tryz.prog.globals[g]?).map (·.type)=J t)(hu:Tryz.prog.underlying t=J (.array n 33))(hT:Tryz.prog.cellsOf t=n)
  (h:∃g t cs fuel p sp,Tryz.prog.globalNamed name=J g/\(Tryz.prog.globals[g]?).map (·.type)=J t/\W.var? Tryz.prog name=J cs/\DataW.trod (fun _=>()) Tryz.prog W 0 sp false fuel t cs.toList=J (PD ns,p)):W.var? Tryz.prog name=J (aGe ns).toArray :=OY hg ht hu Tryz.underlying33 aFu hT h
set_option maxRecDepth 1000000
open Go.ChangeShapes Go.WideShapes Go.ChangeAt Go.RowKit
abbrev jm:String:= "loop.example/s01330/impl.formats"
theorem gF:Tryz.prog.globalNamed jm=J 0:=by kernel_rfl
theorem tF:(Tryz.prog.globals[0]?).map (·.type)=J 165:=by kernel_rfl
theorem JI:Tryz.prog.cellsOf 165=6:=by kernel_rfl
theorem Ry:Tryz.prog.cellsOf 116=3:=by kernel_rfl
theorem Rx:Tryz.prog.cellsOf 3=1:=by kernel_rfl
def fJ:Array Value:=#[.int .i64 24,.int .i64 (-126),.int .i64 127,.int .i64 53,.int .i64 (-1022),.int .i64 1023]
theorem int_of_trod{H:Type}{enc:TypeId × Value->H}{P:Program}{sp:Nat->Bool}{y:DataW H × List MemPlace}
  (ht:P.underlying t=J (.int k)) (h:DataW.trod enc P w base sp held fuel t [c]=J y):∃n,c=.int k n/\y=(.lit (.int k n),[]):=by
 cases fuel with
 |zero=>simp[DataW.trod]at h
 |succ fuel=>
  cases c<;>simp[DataW.trod,ht]at h
  rename_i k' n
  obtain⟨⟨rfl,_⟩,rfl⟩:=h;exact⟨n,rfl,rfl⟩
theorem aEi(h:∃g t cs fuel p sp,Tryz.prog.globalNamed jm=J g/\(Tryz.prog.globals[g]?).map (·.type)=J t/\W.var? Tryz.prog jm=J cs/\DataW.trod (fun _=>()) Tryz.prog W 0 sp false fuel t cs.toList=J (Rows.laid_loop_example_s01330_impl_formats,p)):W.var? Tryz.prog jm=J fJ:=by
 obtain⟨g,t,cs,fuel,p,sp,hg,ht,hvar,hd⟩:=h;obtain rfl:=Option.some.inj (gF.symm.trans hg);obtain rfl:=Option.some.inj (tF.symm.trans ht);rw[hvar]
 congr 1
 obtain⟨l⟩:=cs;obtain⟨xs,m,_,hx,hl,hn,hel⟩:=DataW.trod_array Tryz.underlying165 hd;rw[JI]at hl;rw[Ry]at hel
 match l,hl with
 |[c0,c1,c2,c3,c4,c5],_=>
  match xs,hn with
  |[x0,x1],_=>
   have h0:=hel 0 de;have h1:=hel 1 de;obtain⟨y0,y1,y2,m0,rfl,_,e0,e1,e2⟩:=Go.Deep.trod_struct3 Tryz.underlying116 (show DataW.trod _ Tryz.prog W 0 _ false m 116 [c0,c1,c2]=J x0 from h0);obtain⟨y3,y4,y5,m1,rfl,_,e3,e4,e5⟩:=Go.Deep.trod_struct3 Tryz.underlying116 (show DataW.trod _ Tryz.prog W 0 _ false m 116 [c3,c4,c5]=J x1 from h1);dsimp only at e0 e1 e2 e3 e4 e5;rw[Rx]at e0 e1 e2 e3 e4 e5;obtain⟨n0,rfl,rfl⟩:=int_of_trod Tryz.underlying3 (show DataW.trod _ Tryz.prog W 0 _ false m0 3 [c0]=J y0 from e0);obtain⟨n1,rfl,rfl⟩:=int_of_trod Tryz.underlying3 (show DataW.trod _ Tryz.prog W 0 _ false m0 3 [c1]=J y1 from e1);obtain⟨n2,rfl,rfl⟩:=int_of_trod Tryz.underlying3 (show DataW.trod _ Tryz.prog W 0 _ false m0 3 [c2]=J y2 from e2);obtain⟨n3,rfl,rfl⟩:=int_of_trod Tryz.underlying3 (show DataW.trod _ Tryz.prog W 0 _ false m1 3 [c3]=J y3 from e3);obtain⟨n4,rfl,rfl⟩:=int_of_trod Tryz.underlying3 (show DataW.trod _ Tryz.prog W 0 _ false m1 3 [c4]=J y4 from e4);obtain⟨n5,rfl,rfl⟩:=int_of_trod Tryz.underlying3 (show DataW.trod _ Tryz.prog W 0 _ false m1 3 [c5]=J y5 from e5);simp[Rows.laid_loop_example_s01330_impl_formats]at hx;obtain⟨⟨⟨rfl,rfl,rfl⟩,⟨rfl,rfl,rfl⟩⟩,_⟩:=hx;rfl
theorem AU(hv:W.var? Tryz.prog jm=J fJ):Fm W:=
 ⟨World.var?_cell gF hv 0,World.var?_cell gF hv 1,World.var?_cell gF hv 2,World.var?_cell gF hv 3,World.var?_cell gF hv 4,World.var?_cell gF hv 5⟩
abbrev vC{H:Type}:DataW H:=.agg [.agg [.lit (.int .i64 24),.lit (.int .i64 (-126)),.lit (.int .i64 127)],.agg [.lit (.int .i64 53),.lit (.int .i64 (-1022)),.lit (.int .i64 1023)]]
theorem reads_table{H:Type}(enc:TypeId × Value->H)(W:World)(sp:Nat->Bool):DataW.trod enc Tryz.prog W 0 sp true 4 165 fJ.toList=J (vC,[]):=by kernel_rfl
