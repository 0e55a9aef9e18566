import Derived.Test.YtnbbfeknbfohhaaGreatDoorA1
import Derived.Test.YtnbbfeknbfohhaaGreatDoorRows
import Derived.ProofKit
import Derived.LaidMore
import Derived.OpenShut
import Derived.ChangeSame
import Derived.ChangeVars
import Derived.Stop.Joined
import Derived.Deep.Strs
import Derived.Test.YtnbbfeknbfohhaaGreatDoorF0
import Derived.Test.YtnbbfeknbfohhaaGreatDoorBo
import Derived.Test.YtnbbfeknbfohhaaGreatDoorCards
import Derived.Test.YtnbbfeknbfohhaaGreatDoorTie
import Derived.WalkKit
import Derived.Lib.SmallJoins
import Derived.SevenTiedAt
set_option linter.unusedVariables false
set_option maxRecDepth 1000000
open Go.Proofs.Tryz
namespace Go.Proofs.YtnbbfeknbfohhaaGreatDoor
open Go.ChangeShapes Go.WideShapes Go.ChangeAt Go.RowKit
theorem aCe:ownKnob Tryz.prog.godebug=none:=by kernel_rfl
theorem aBm:Tryz.prog.cellsOf 22=1:=by kernel_rfl
abbrev aBW{H:Type}(ns:List Int):DataW H:=.agg (ns.map fun n=>.lit (.int .u64 n))
abbrev aBX(ns:List Int):List Value:=ns.map fun n=>.int .u64 n
theorem CZ{H:Type}{enc:TypeId × Value→H}{w:World}{base:Nat}{sp:Nat→Bool}{held:Bool}{fuel:Nat}{c:Value}{y:DataW H × List MemPlace}
  (h:DataW.trod enc Tryz.prog w base sp held fuel 22 [c]=some y):∃n,c=.int .u64 n∧y=(.lit (.int .u64 n),[]):=by
 cases fuel with
 |zero=>simp[DataW.trod]at h
 |succ fuel=>
  cases c<;>simp[DataW.trod,Tryz.underlying22]at h
  rename_i k' n
  obtain⟨⟨rfl,_⟩,rfl⟩:=h
  exact⟨n,rfl,rfl⟩
theorem cells_of_row{H:Type}{enc:TypeId × Value→H}{w:World}{base:Nat}{sp:Nat→Bool}{held:Bool}{fuel:Nat}{t:TypeId}{n:Nat}{cs:List Value}{ns:List Int}{p:List MemPlace}
  (ht:Tryz.prog.underlying t=some (.array n 22)) (hT:Tryz.prog.cellsOf t=n) (h:DataW.trod enc Tryz.prog w base sp held fuel t cs=some (aBW ns,p)):cs=aBX ns:=by
 obtain⟨xs,m,_,hx,hl,hn,hel⟩:=DataW.trod_array ht h
 rw[hT]at hl
 rw[aBm]at hel
 simp only[Prod.mk.injEq,DataW.agg.injEq]at hx
 have hx1:=hx.1
 have hlen:ns.length=n:=by have:=congrArg List.length hx1;simp at this;omega
 refine List.ext_getElem (by simp[hl,hlen]) fun i hi hi'=>?_
 have hin:i<n:=om
 have e:=hel i hin
 rw[Nat.mul_one,List.drop_eq_getElem_cons hi,List.take_succ_cons,List.take_zero]at e
 have hxi:i<xs.length:=om
 rw[List.getElem?_eq_getElem hxi]at e
 obtain⟨k,hk,hy⟩:=CZ e
 have hm:(ns.map fun n=>(DataW.lit (.int .u64 n):DataW H))[i]?=(xs.map (·.1))[i]?:=by rw[hx1]
 have hni:i<ns.length:=om
 rw[List.getElem?_map,List.getElem?_map,List.getElem?_eq_getElem hni,List.getElem?_eq_getElem hxi,hy]at hm
 simp only[Option.map_some,Option.some.injEq,DataW.lit.injEq,Lit.int.injEq,true_and]at hm
 rw[hk,←hm,List.getElem_map]
theorem GK{W:World}{name:String}{g:Nat}{cs:Array Value}(hg:Tryz.prog.globalNamed name=some g)(hv:W.var? Tryz.prog name=some cs):∃t fr,W.heap[g]?=some (.cells cs t fr):=by
 simp only[World.var?,hg,Option.bind_some]at hv
 split at hv
 ·rename_i c t fr e
  obtain rfl:=Option.some.inj hv
  exact⟨t,fr,e⟩
 ·cases hv
theorem Sr{W W':World}{name:String}{g:Nat}{cs:Array Value}(hg:Tryz.prog.globalNamed name=some g)(hb:Below W.heap.size W W')(hv:W.var? Tryz.prog name=some cs):W'.var? Tryz.prog name=some cs:=by
 obtain⟨t,fr,h⟩:=GK hg hv
 have hs:g<W.heap.size:=by
  rcases Nat.lt_or_ge g W.heap.size with k|k
  ·exact k
  ·simp[k]at h
 simp only[World.var?,hg,Option.bind_some]
 rw[Below.block hb g hs,h]
theorem Qm{name:String}{d:DataW Unit}{rest:List (String × DataW Unit)}{W:World}(h:∃ps,DataW.LaidVars Tryz.prog W ((name,d)::rest) ps):
  (∃g t cs fuel p sp,Tryz.prog.globalNamed name=some g∧(Tryz.prog.globals[g]?).map (·.type)=some t∧W.var? Tryz.prog name=some cs∧DataW.trod (fun _=>()) Tryz.prog W 0 sp false fuel t cs.toList=some (d,p))∧∃ps,DataW.LaidVars Tryz.prog W rest ps:=by
 obtain⟨ps,g,t,cs,fuel,p,q,hg,ht,hvar,hd,hr,_⟩:=h
 exact⟨⟨g,t,cs,fuel,p,_,hg,ht,hvar,hd⟩,q,hr⟩
theorem YP{name:String}{ns:List Int}{n g:Nat}{t:TypeId}{W:World}(hg:Tryz.prog.globalNamed name=some g)(ht:(Tryz.prog.globals[g]?).map (·.type)=some t)(hu:Tryz.prog.underlying t=some (.array n 22))(hT:Tryz.prog.cellsOf t=n)
  (h:∃g t cs fuel p sp,Tryz.prog.globalNamed name=some g∧(Tryz.prog.globals[g]?).map (·.type)=some t∧W.var? Tryz.prog name=some cs∧DataW.trod (fun _=>()) Tryz.prog W 0 sp false fuel t cs.toList=some (aBW ns,p)):W.var? Tryz.prog name=some (aBX ns).toArray :=by
 obtain⟨g',t',cs,fuel,p,sp,hg',ht',hv,hd⟩:=h
 obtain rfl:=Option.some.inj (hg.symm.trans hg')
 obtain rfl:=Option.some.inj (ht.symm.trans ht')
 rw[hv]
 congr 1
 obtain⟨l⟩:=cs
 have:=cells_of_row hu hT hd
 simp only at this
 rw[this]
open Go.ChangeShapes Go.WideShapes Go.ChangeAt Go.RowKit
abbrev qc:String:= "loop.example/s01330/impl.formats"
theorem gF:Tryz.prog.globalNamed qc=some 0:=by kernel_rfl
theorem tF:(Tryz.prog.globals[0]?).map (·.type)=some 143:=by kernel_rfl
theorem Yx:Tryz.prog.cellsOf 143=6:=by kernel_rfl
theorem aBo:Tryz.prog.cellsOf 105=3:=by kernel_rfl
theorem aBn:Tryz.prog.cellsOf 3=1:=by kernel_rfl
def pJ:Array Value:=#[.int .i64 24,.int .i64 (-126),.int .i64 127,.int .i64 53,.int .i64 (-1022),.int .i64 1023]
theorem int_of_trod{H:Type}{enc:TypeId × Value→H}{P:Program}{w:World}{base:Nat}{sp:Nat→Bool}{held:Bool}{fuel:Nat}{t:TypeId}{k:IntKind}{c:Value}{y:DataW H × List MemPlace}
  (ht:P.underlying t=some (.int k)) (h:DataW.trod enc P w base sp held fuel t [c]=some y):∃n,c=.int k n∧y=(.lit (.int k n),[]):=by
 cases fuel with
 |zero=>simp[DataW.trod]at h
 |succ fuel=>
  cases c<;>simp[DataW.trod,ht]at h
  rename_i k' n
  obtain⟨⟨rfl,_⟩,rfl⟩:=h
  exact⟨n,rfl,rfl⟩
theorem aDa{W:World}(h:∃g t cs fuel p sp,Tryz.prog.globalNamed qc=some g∧(Tryz.prog.globals[g]?).map (·.type)=some t∧W.var? Tryz.prog qc=some cs∧DataW.trod (fun _=>()) Tryz.prog W 0 sp false fuel t cs.toList=some (Rows.laid_loop_example_s01330_impl_formats,p)):W.var? Tryz.prog qc=some pJ:=by
 obtain⟨g,t,cs,fuel,p,sp,hg,ht,hvar,hd⟩:=h
 obtain rfl:=Option.some.inj (gF.symm.trans hg)
 obtain rfl:=Option.some.inj (tF.symm.trans ht)
 rw[hvar]
 congr 1
 obtain⟨l⟩:=cs
 obtain⟨xs,m,_,hx,hl,hn,hel⟩:=DataW.trod_array Tryz.underlying143 hd
 rw[Yx]at hl
 rw[aBo]at hel
 match l,hl with
 |[c0,c1,c2,c3,c4,c5],_=>
  match xs,hn with
  |[x0,x1],_=>
   have h0:=hel 0 de
   have h1:=hel 1 de
   obtain⟨y0,y1,y2,m0,rfl,_,e0,e1,e2⟩:=Go.Deep.trod_struct3 Tryz.underlying105 (show DataW.trod _ Tryz.prog W 0 _ false m 105 [c0,c1,c2]=some x0 from h0)
   obtain⟨y3,y4,y5,m1,rfl,_,e3,e4,e5⟩:=Go.Deep.trod_struct3 Tryz.underlying105 (show DataW.trod _ Tryz.prog W 0 _ false m 105 [c3,c4,c5]=some x1 from h1)
   dsimp only at e0 e1 e2 e3 e4 e5
   rw[aBn]at e0 e1 e2 e3 e4 e5
   obtain⟨n0,rfl,rfl⟩:=int_of_trod Tryz.underlying3 (show DataW.trod _ Tryz.prog W 0 _ false m0 3 [c0]=some y0 from e0)
   obtain⟨n1,rfl,rfl⟩:=int_of_trod Tryz.underlying3 (show DataW.trod _ Tryz.prog W 0 _ false m0 3 [c1]=some y1 from e1)
   obtain⟨n2,rfl,rfl⟩:=int_of_trod Tryz.underlying3 (show DataW.trod _ Tryz.prog W 0 _ false m0 3 [c2]=some y2 from e2)
   obtain⟨n3,rfl,rfl⟩:=int_of_trod Tryz.underlying3 (show DataW.trod _ Tryz.prog W 0 _ false m1 3 [c3]=some y3 from e3)
   obtain⟨n4,rfl,rfl⟩:=int_of_trod Tryz.underlying3 (show DataW.trod _ Tryz.prog W 0 _ false m1 3 [c4]=some y4 from e4)
   obtain⟨n5,rfl,rfl⟩:=int_of_trod Tryz.underlying3 (show DataW.trod _ Tryz.prog W 0 _ false m1 3 [c5]=some y5 from e5)
   simp[Rows.laid_loop_example_s01330_impl_formats]at hx
   obtain⟨⟨⟨rfl,rfl,rfl⟩,⟨rfl,rfl,rfl⟩⟩,_⟩:=hx
   rfl
theorem QT{W:World}(hv:W.var? Tryz.prog qc=some pJ):Fm W:=
 ⟨World.var?_cell gF hv 0,World.var?_cell gF hv 1,World.var?_cell gF hv 2,World.var?_cell gF hv 3,World.var?_cell gF hv 4,World.var?_cell gF hv 5⟩
abbrev VB{H:Type}:DataW H:=.agg [.agg [.lit (.int .i64 24),.lit (.int .i64 (-126)),.lit (.int .i64 127)],.agg [.lit (.int .i64 53),.lit (.int .i64 (-1022)),.lit (.int .i64 1023)]]
theorem reads_table{H:Type}(enc:TypeId × Value→H)(W:World)(sp:Nat→Bool):DataW.trod enc Tryz.prog W 0 sp true 4 143 pJ.toList=some (VB,[]):=by kernel_rfl
end Go.Proofs.YtnbbfeknbfohhaaGreatDoor
namespace Go.Proofs.YtnbbfeknbfohhaaGreatDoor.fnBracket
open Go.ChangeShapes Go.WideShapes Go.ChangeAt Go.RowKit Go.Joins
theorem laidOut:laidOutB Tryz.prog=true:=by kernel_rfl
theorem aCl(a0 a1:Option Addr)(l0 c0 l1 c1:Nat)(w:World)(h0:(1048576:Int)<(l0:Int)):
  CT 8 #[.slice a0 l0 c0,.slice a1 l1 c1] w fun e w'=>e=.returned (.bool true)∧Below w.heap.size w w':=by
 go_enter func8,ntmps8
 go_wp2
 go_ret
 exact⟨rfl,Below.refl _ _⟩
theorem aIy(a0 a1:Option Addr)(l0 c0 l1 c1:Nat)(w:World)(h0:¬(1048576:Int)<(l0:Int))(h1:(1048576:Int)<(l1:Int)):
  CT 8 #[.slice a0 l0 c0,.slice a1 l1 c1] w fun e w'=>e=.returned (.bool true)∧Below w.heap.size w w':=by
 go_enter func8,ntmps8
 go_wp2
 go_ret
 exact⟨rfl,Below.refl _ _⟩
theorem codeRow{w:World}{a:Option Addr}{len cap:Nat}(hl:len≤1048576)
  (h:len=0∨∃(x:Addr) (zs:List Int),a=some x∧len≤zs.length∧(∀i,i<zs.length→w.cell? (x.add i)=some (.int .u8 (zs.getD i 0)))∧∀n ∈ zs,(Lit.int .u8 n).wf =true):pV w a len:=by
 refine⟨hl,?_⟩
 rcases h with e|⟨x,zs,rfl,hz,hc,hw⟩
 ·exact .inl e
 ·rcases(show len=0∨0<len by omega)with e|hp
  ·exact .inl e
  ·obtain⟨b,off,rfl,hcell⟩:=ints_at hc om
   refine .inr ⟨b,off,rfl,fun i hi=>⟨zs.getD i 0,?_,?_,hcell i om⟩⟩
   ·rw[List.getD_eq_getElem?_getD];exact(range_u8 hw i).1
   ·rw[List.getD_eq_getElem?_getD];exact(range_u8 hw i).2
theorem walk(a0 a1:Option Addr)(l0 c0 l1 c1:Nat)(w:World)(v0:Fm w)
  (h0:l0=0∨∃(x:Addr) (zs:List Int),a0=some x∧l0≤zs.length∧(∀i,i<zs.length→w.cell? (x.add i)=some (.int .u8 (zs.getD i 0)))∧∀n ∈ zs,(Lit.int .u8 n).wf =true)
  (h1:l1=0∨∃(x:Addr) (zs:List Int),a1=some x∧l1≤zs.length∧(∀i,i<zs.length→w.cell? (x.add i)=some (.int .u8 (zs.getD i 0)))∧∀n ∈ zs,(Lit.int .u8 n).wf =true)
  :CT 8 #[.slice a0 l0 c0,.slice a1 l1 c1] w fun e w'=>e=.returned (.bool true)∧Below w.heap.size w w':=by
 rcases(show 1048576<l0∨l0≤1048576 by omega)with k0|k0
 ·exact aCl a0 a1 l0 c0 l1 c1 w om
 rcases(show 1048576<l1∨l1≤1048576 by omega)with k1|k1
 ·exact aIy a0 a1 l0 c0 l1 c1 w om om
 exact aGG a0 a1 l0 c0 l1 c1 w (codeRow (cap:=c0) k0 h0) (codeRow (cap:=c1) k1 h1) v0
abbrev Gg:List (String × DataW Unit):=[(qc,Rows.laid_loop_example_s01330_impl_formats)]
theorem door_met(os:Os)(args:Array Value):laidMetH Tryz.prog Gg ((World.doorLaid Tryz.prog 16 os).forCall (fun _ _=>0) ⟨#[],args,[]⟩).memory :=
 laidMetH_of_parts3 (fuel:=8) (laidMet_of_run' 8 (by kernel_rfl) (by kernel_rfl)) (by kernel_rfl) (by kernel_rfl)
def VZ(W:World):Prop:=W.var? Tryz.prog qc=some pJ
theorem Dc{W:World}(h:laidMetH Tryz.prog Gg W):VZ W:=by
 rw[MakeChecks.laidMetH_plain _ _ _ (by kernel_rfl)]at h
 obtain⟨ps,hl,_⟩:=h
 obtain⟨x0,l0⟩:=Qm ⟨ps,hl⟩
 exact aDa x0
theorem I4{H:Type}(enc:TypeId × Value→H){W W':World}(hb:Below W.heap.size W W')(hv:VZ W)(sp:Nat→Bool):
  ∃q,DataW.TrodVars enc Tryz.prog W' sp [qc] [VB] q:=by
 have h0:W.var? Tryz.prog qc=some pJ:=hv
 exact⟨_,⟨_,143,pJ,4,[],_,gF,tF,Sr gF hb h0,reads_table enc W' sp,rfl,rfl⟩⟩
theorem EO{H:Type}{enc:TypeId × Value→H}{W:World}{gs:List (DataW H)}{q:List MemPlace}(hv:VZ W)(hV:DataW.TrodVars enc Tryz.prog W (fun _=>true) [qc] gs q):gs=[VB]:=by
 have h0:W.var? Tryz.prog qc=some pJ:=hv
 obtain⟨d0,gs0,rfl⟩:∃d l,gs=d::l:=by cases gs<;>simp[DataW.TrodVars]at hV⊢
 obtain⟨a0,b0,c0,f0,p0,q0,e0,k0,m0,n0,hV,_⟩:=hV
 obtain rfl:=Option.some.inj (gF.symm.trans e0)
 obtain rfl:=Option.some.inj (tF.symm.trans k0)
 obtain rfl:c0=pJ:=Option.some.inj (m0.symm.trans h0)
 obtain⟨rfl,rfl⟩:=DataW.Trod.unique (v:=.agg pJ) ⟨f0,n0⟩ ⟨4,reads_table enc W _⟩
 cases gs0<;>simp[DataW.TrodVars]at hV⊢
theorem lifted(os:Os)(started:os.Started)(H:Type)(enc:TypeId × Value→H):
  ReturnsInHanded {} Tryz.checked os 8 .any (fun w args=>(Rows.fnBracketSpec.pre enc Tryz.prog Tryz.f8 [] false w args∧laidMetH Tryz.prog Gg w)∧sizedMet enc Tryz.prog Tryz.f8 (OpenSpec.ofChange Rows.fnBracketSpec) false w args)
   (Rows.fnBracketSpec.post enc Tryz.prog Tryz.f8 false true false false):=by
 refine returnsInHanded_of_change_and (C:=Tryz.checked) (X:=fun w _=>laidMetH Tryz.prog Gg w) (fun _ _ _ hh h=>h.of_heap hh) aCe started (by kernel_rfl) func8
  (ChangeSpec.witness_shaped (enc:=enc) (C:=Tryz.checked) (os:=os) (X:=fun w _=>laidMetH Tryz.prog Gg w) false (World.doorLaid Tryz.prog 16 os) #[.slice none 0 0,.slice none 0 0] 8 rfl (World.shaped_of_RefB (by kernel_rfl) (by kernel_rfl)) (by kernel_rfl) (by kernel_rfl) (by kernel_rfl) (door_met os _)) ?_
 intro W base args ds gs before hval0 hW _ _ hL _
 have hval:∀(j:Nat) t v,Tryz.f8.params[j]?=some t→args[j]?=some v→Value.okWide Tryz.prog W .any base t v:=hval0
 have hW':=hW
 obtain⟨p,q,hA0,hV0,rfl,hfz,hnd⟩:=hW
 have hA:DataW.TrodAll enc Tryz.prog W 0 (fun _=>true) true Tryz.f8.params.toList args.toList ds p:=hA0
 have hV:DataW.TrodVars enc Tryz.prog W (fun _=>true) [qc] gs q:=hV0
 rw[Tryz.params8]at hA hval
 obtain⟨v0,vs0,d0,ds0,p0,q0,hargs,rfl,rfl,h0,r0⟩:=trodAll_cons hA
 obtain⟨v1,vs1,d1,ds1,p1,q1,rfl,rfl,rfl,h1,r1⟩:=trodAll_cons r0
 obtain⟨rfl,rfl,rfl⟩:=trodAll_nil r1
 obtain rfl:args=#[v0,v1]:=by cases args;simp_all
 have hX:=Dc hL
 obtain rfl:=EO hX hV
 obtain⟨a0,len0,cap0,rfl⟩:=okWide_slice Tryz.underlying28 (hval 0 28 v0 rfl rfl)
 have k0:=h0
 have lt0:∀x ∈ p0,x.block<W.heap.size:=by obtain⟨m,hm⟩:=k0;exact DataW.trod_lt m _ _ _ hm
 have w0:len0=0∨∃(x:Addr) (zs:List Int),a0=some x∧len0≤zs.length∧(∀i,i<zs.length→W.cell? (x.add i)=some (.int .u8 (zs.getD i 0)))∧∀n ∈ zs,(Lit.int .u8 n).wf =true:=by
  obtain⟨fuel,hf⟩:=h0
  rcases open_ints Tryz.underlying28 Tryz.underlying5 (by kernel_rfl) hf with⟨hcs,_⟩|⟨x,l,c,zs,hcs,_,hl,hm,hz,_,hcell,hwz⟩
  ·simp[Value.cells]at hcs
   obtain⟨rfl,rfl,rfl⟩:=hcs
   exact .inl rfl
  ·simp[Value.cells]at hcs
   obtain⟨rfl,rfl,rfl⟩:=hcs
   have hz':zs.length=cap0:=by simpa using hz
   exact .inr ⟨x,zs,rfl,om,hcell,hwz⟩
 obtain⟨a1,len1,cap1,rfl⟩:=okWide_slice Tryz.underlying28 (hval 1 28 v1 rfl rfl)
 have k1:=h1
 have lt1:∀x ∈ p1,x.block<W.heap.size:=by obtain⟨m,hm⟩:=k1;exact DataW.trod_lt m _ _ _ hm
 have w1:len1=0∨∃(x:Addr) (zs:List Int),a1=some x∧len1≤zs.length∧(∀i,i<zs.length→W.cell? (x.add i)=some (.int .u8 (zs.getD i 0)))∧∀n ∈ zs,(Lit.int .u8 n).wf =true:=by
  obtain⟨fuel,hf⟩:=h1
  rcases open_ints Tryz.underlying28 Tryz.underlying5 (by kernel_rfl) hf with⟨hcs,_⟩|⟨x,l,c,zs,hcs,_,hl,hm,hz,_,hcell,hwz⟩
  ·simp[Value.cells]at hcs
   obtain⟨rfl,rfl,rfl⟩:=hcs
   exact .inl rfl
  ·simp[Value.cells]at hcs
   obtain⟨rfl,rfl,rfl⟩:=hcs
   have hz':zs.length=cap1:=by simpa using hz
   exact .inr ⟨x,zs,rfl,om,hcell,hwz⟩
 clear hA0 hV0 hval0
 refine(walk a0 a1 len0 cap0 len1 cap1 W (QT hX) w0 w1).mono fun e W' ⟨he,hgb⟩=>?_
 subst he
 obtain⟨_,hq⟩:=I4 enc hgb hX (fun b=>decide (b<W.heap.size))
 exact⟨_,rfl,_,_,_,[],_,_,hW',(trodAll_cons_mk (shut_bool Tryz.underlying4 _) trodAll_mk0),(trodAll_cons_mk (Below.trod laidOut (by kernel_rfl) (of_decide_eq_true (by kernel_rfl)) k0 hgb lt0) (trodAll_cons_mk (Below.trod laidOut (by kernel_rfl) (of_decide_eq_true (by kernel_rfl)) k1 hgb lt1) trodAll_mk0)),hq,Below.frame hgb _,fun h=>by cases h⟩
theorem over:Rows.fnBracketRow.holds Tryz.pinned (OpenSpec.ofChange Rows.fnBracketSpec):=
 OpenClaim.holds_of_wide 8 Tryz.f8 rfl rfl rfl rfl rfl rfl rfl ⟨rfl,rfl,rfl,rfl,rfl⟩ rfl rfl rfl rfl rfl (by kernel_rfl) func8 (by kernel_rfl)
  (of_decide_eq_true (by kernel_rfl)) (by unfold Func.isWrapper;first|(rw[if_pos (by decide+kernel)];kernel_rfl)|(rw[if_neg (by decide+kernel)];exact⟨rfl,rfl⟩))
  (fun os started H enc _=>lifted os started H enc)
end Go.Proofs.YtnbbfeknbfohhaaGreatDoor.fnBracket
namespace Go.Proofs.YtnbbfeknbfohhaaGreatDoor
open Go
theorem FnBracket_holds:Rows.FnBracketCardSaid:=
 Claim7.holds_tied_plain_at .later [] [.wider] true (true,"2fc977627abd0f8c1933ea384f2eb73ae782045d09052f661ae5124887898203") false
  fnBracket.over (fun _ h=>by cases h) (by kernel_rfl) (fun _ h=>by cases h) fnBracket_row_tie rfl ⟨rfl,rfl⟩ (by kernel_rfl) rfl
  (fun f fn hf hfn=>by
   obtain rfl:f=8:=Option.some.inj ((show Tryz.prog.funcNamed "loop.example/s01330/laws.FnBracket" =some 8 by kernel_rfl).symm.trans hf)|>.symm
   obtain rfl:fn=Tryz.f8:=(Option.some.inj (func8.symm.trans hfn)).symm
   exact⟨by kernel_rfl,fun j t ht=>by
    rw[Tryz.params8]at ht
    have hm:t ∈ [28,28]:=by simpa using Array.mem_of_getElem? ht
    have hall:([28,28].all fun u=> !Tryz.prog.wantsStandIn u)=true:=by kernel_rfl
    exact(show Tryz.prog.wantsStandIn t=false by simpa using List.all_eq_true.1 hall t hm)⟩)
  (by kernel_rfl)
#print axioms FnBracket_holds
