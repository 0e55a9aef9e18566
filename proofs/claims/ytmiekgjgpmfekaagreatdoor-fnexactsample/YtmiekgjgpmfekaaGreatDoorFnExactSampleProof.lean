import Derived.Test.YtmiekgjgpmfekaaGreatDoorM4
import Derived.Test.YtmiekgjgpmfekaaGreatDoorT8
import Derived.Test.YtmiekgjgpmfekaaGreatDoorCards
import Derived.Test.YtmiekgjgpmfekaaGreatDoorTie
import Derived.Lib.SmallJoins
import Derived.SevenTiedAt
import Derived.ChangeMaps5
set_option linter.all false
set_option maxRecDepth 1000000
set_option maxHeartbeats 40000000
open Go.Proofs.Tryz
namespace Go.Proofs.YtmiekgjgpmfekaaGreatDoor
open Go.RowKit
theorem Ku(r:Smp)(w:World):QR 23 #[pJ r,pJ r] w (.bool true):=by
 obtain⟨a,b,c,d⟩:=r;go_enter func23,ntmps23;go_wp2;go_returns;exact⟨rfl,kr⟩
theorem Wy(mu inv scale:Int)(s:ByteArray)(m0:0<=mu)(m1:mu<18446744073709551616)(i0:0<=inv)(i1:inv<18446744073709551616)(s0:0<=scale)(s1:scale<18446744073709551616){w:World}(hw:Fm w)(hT:Tl w)(hD:Dc w):
  CT 5 #[.int .u64 mu,.int .u64 inv,.int .u64 scale,.string s] w fun e w'=>e=.returned (.bool true)/\Below w.heap.size w w':=by
 obtain⟨SL⟩:=CY;have hch:Inhabited Ch:=⟨SL⟩;by_cases hz:s.size<=1048576
 ·have hz':¬(1048576:Int)<s.size:=om;have HS:Hid (∀w,CT 21 #[.int .u64 mu,.int .u64 inv,.int .u64 scale,.string s] w fun e w'=>∃r,o7.gG mu inv scale s r/\e=.returned (pJ r)/\Gb w w'):=fun w=>MS aHz CG ⟨m0,m1⟩ ⟨i0,i1⟩ ⟨s0,s1⟩ s hz w;have HP:Hid (∀w',Gb w w'->CT 22 #[.int .u64 mu,.int .u64 inv,.int .u64 scale,.string s] w' fun e w''=>∃r,o7.gG mu inv scale s r/\e=.returned (pJ r)/\Gr w' w''):=fun w' hg=>MX aHA CG ⟨m0,m1⟩ ⟨i0,i1⟩ ⟨s0,s1⟩ s hz (hw.gb hg) (hT.below hg) (hD.below hg);clear hw hT hD;go_enter func5,ntmps5;go_upto_region 4 with(go_at_call 21;refine(HS _).mono ?_;rintro e w1 ⟨r,hr,rfl,ak⟩);have HR:Hid (o7.gG mu inv scale s r):=hr;clear hr;go_upto_region 5 with(go_at_call 22;refine(HP _ kg).mono ?_;rintro e w2 ⟨r',hr',he',aA⟩;rw[<-O7.gG.one HR.out hr']at he';subst he';clear hr';have:=aA.I9 w1);go_wp2_with (go_at_call 23;refine ku (Ku r _) fun w3 aC=>?_);go_returns;exact⟨rfl,(show Gb w w3 from kg)⟩
 ·have hz':(1048576:Int)<s.size:=om;clear hw hT hD;go_enter func5,ntmps5;go_wp2;go_returns;exact⟨rfl,Below.refl _ _⟩
end Go.Proofs.YtmiekgjgpmfekaaGreatDoor
namespace Go.Proofs.YtmiekgjgpmfekaaGreatDoor.fnExactSample
open Go.ChangeShapes Go.WideShapes Go.ChangeAt Go.RowKit Go.Joins
abbrev jG:List (String × DataW Unit):=[(iD,Rows.laid_loop_example_s01330_impl_formats),(oO,Rows.laid_loop_example_s01330_impl_tails),(oP,Rows.laid_loop_example_s01330_impl_decays)]
theorem door_met(os:Os)(args:Array Value):laidMetH Tryz.prog jG ((World.doorLaid Tryz.prog 16 os).forCall (fun _ _=>0) ⟨#[],args,[]⟩).memory :=
 laidMetH_of_parts3 (fuel:=8) (laidMet_of_run' 8 (by kernel_rfl) (by kernel_rfl)) (by kernel_rfl) (by kernel_rfl)
def o8(W:World):Prop:=W.var? Tryz.prog iD=some eu/\W.var? Tryz.prog oO=some nD/\W.var? Tryz.prog oP=some jI
theorem iV{W:World}(h:laidMetH Tryz.prog jG W):o8 W:=by
 rw[MakeChecks.laidMetH_plain _ _ _ (by kernel_rfl)]at h;obtain⟨ps,hl,_⟩:=h;obtain⟨x0,l0⟩:=kW ⟨ps,hl⟩;obtain⟨x1,l1⟩:=kW l0;obtain⟨x2,l2⟩:=kW l1;exact⟨aBC x0,aG2 x1,aG3 x2⟩
theorem gu{H:Type}(enc:TypeId × Value->H){W W':World}(hb:Below W.heap.size W W')(hv:o8 W)(sp:Nat->Bool):
  ∃q,DataW.TrodVars enc Tryz.prog W' sp [iD,oO,oP] [sO,EN zH,EN qU] q:=by
 obtain⟨h0,h1,h2⟩:=hv;exact⟨_,⟨_,165,eu,4,[],_,gF,tF,nC gF hb h0,reads_table enc W' sp,⟨_,217,nD,4,[],_,gT,tT,nC gT hb h1,Jy enc W' sp,⟨_,218,jI,4,[],_,gD,tD,nC gD hb h2,Jz enc W' sp,rfl,rfl⟩,rfl⟩,rfl⟩⟩
theorem fQ{H:Type}{enc:TypeId × Value->H}{W:World}{gs:List (DataW H)}{q:List MemPlace}(hv:o8 W)(hV:DataW.TrodVars enc Tryz.prog W (fun _=>true) [iD,oO,oP] gs q):gs=[sO,EN zH,EN qU]:=by
 obtain⟨h0,h1,h2⟩:=hv;obtain⟨d0,gs0,rfl⟩:∃d l,gs=d::l:=by cases gs<;>simp[DataW.TrodVars]at hV⊢
 obtain⟨a0,b0,c0,f0,p0,q0,e0,k0,m0,n0,hV,_⟩:=hV;obtain rfl:=Option.some.inj (gF.symm.trans e0);obtain rfl:=Option.some.inj (tF.symm.trans k0);obtain rfl:c0=eu:=Option.some.inj (m0.symm.trans h0);obtain⟨rfl,rfl⟩:=DataW.Trod.unique (v:=.agg eu) ⟨f0,n0⟩ ⟨4,reads_table enc W _⟩;obtain⟨d1,gs1,rfl⟩:∃d l,gs0=d::l:=by cases gs0<;>simp[DataW.TrodVars]at hV⊢
 obtain⟨a1,b1,c1,f1,p1,q1,e1,k1,m1,n1,hV,_⟩:=hV;obtain rfl:=Option.some.inj (gT.symm.trans e1);obtain rfl:=Option.some.inj (tT.symm.trans k1);obtain rfl:c1=nD:=Option.some.inj (m1.symm.trans h1);obtain⟨rfl,rfl⟩:=DataW.Trod.unique (v:=.agg nD) ⟨f1,n1⟩ ⟨4,Jy enc W _⟩;obtain⟨d2,gs2,rfl⟩:∃d l,gs1=d::l:=by cases gs1<;>simp[DataW.TrodVars]at hV⊢
 obtain⟨a2,b2,c2,f2,p2,q2,e2,k2,m2,n2,hV,_⟩:=hV;obtain rfl:=Option.some.inj (gD.symm.trans e2);obtain rfl:=Option.some.inj (tD.symm.trans k2);obtain rfl:c2=jI:=Option.some.inj (m2.symm.trans h2);obtain⟨rfl,rfl⟩:=DataW.Trod.unique (v:=.agg jI) ⟨f2,n2⟩ ⟨4,Jz enc W _⟩;cases gs2<;>simp[DataW.TrodVars]at hV⊢
theorem lifted(os:Os)(started:os.Started)(H:Type)(enc:TypeId × Value->H):
  ReturnsInHanded {} Tryz.checked os 5 .any (fun w args=>(Rows.fnExactSampleSpec.pre enc Tryz.prog Tryz.f5 [] false w args/\laidMetH Tryz.prog jG w)/\sizedMet enc Tryz.prog Tryz.f5 (OpenSpec.ofChange Rows.fnExactSampleSpec) false w args)
   (Rows.fnExactSampleSpec.post enc Tryz.prog Tryz.f5 false true false false):=by
 refine returnsInHanded_of_change_and (C:=Tryz.checked) (X:=fun w _=>laidMetH Tryz.prog jG w) (fun _ _ _ hh h=>h.of_heap hh) Ui started (by kernel_rfl) func5
  (ChangeSpec.witness_shaped (enc:=enc) (C:=Tryz.checked) (os:=os) (X:=fun w _=>laidMetH Tryz.prog jG w) false (World.doorLaid Tryz.prog 16 os) #[.int .u64 0,.int .u64 0,.int .u64 0,.string ⟨#[]⟩] 8 rfl (World.shaped_of_RefB (by kernel_rfl) (by kernel_rfl)) (by kernel_rfl) (by kernel_rfl) (by kernel_rfl) (door_met os _)) ?_
 intro W base args ds gs before hval0 hW _ _ hL _;have hval:∀(j:Nat) t v,Tryz.f5.params[j]?=some t->args[j]?=some v->Value.okWide Tryz.prog W .any base t v:=hval0;have hW':=hW;obtain⟨p,q,hA0,hV0,rfl,hfz,hnd⟩:=hW;have hA:DataW.TrodAll enc Tryz.prog W 0 (fun _=>true) true Tryz.f5.params.toList args.toList ds p:=hA0;have hV:DataW.TrodVars enc Tryz.prog W (fun _=>true) [iD,oO,oP] gs q:=hV0;rw[Tryz.params5]at hA hval;obtain⟨v0,vs0,d0,ds0,p0,q0,hargs,rfl,rfl,h0,r0⟩:=trodAll_cons hA;obtain⟨v1,vs1,d1,ds1,p1,q1,rfl,rfl,rfl,h1,r1⟩:=trodAll_cons r0;obtain⟨v2,vs2,d2,ds2,p2,q2,rfl,rfl,rfl,h2,r2⟩:=trodAll_cons r1;obtain⟨v3,vs3,d3,ds3,p3,q3,rfl,rfl,rfl,h3,r3⟩:=trodAll_cons r2;obtain⟨rfl,rfl,rfl⟩:=trodAll_nil r3;obtain rfl:args=#[v0,v1,v2,v3]:=by cases args;simp_all
 have hX:=iV hL;obtain rfl:=fQ hX hV;obtain⟨a0,rfl,rfl,rfl,w0⟩:=open_int Tryz.underlying33 (hval 0 33 v0 rfl rfl) h0;have b0:=bounds_u64 w0;obtain⟨a1,rfl,rfl,rfl,w1⟩:=open_int Tryz.underlying33 (hval 1 33 v1 rfl rfl) h1;have b1:=bounds_u64 w1;obtain⟨a2,rfl,rfl,rfl,w2⟩:=open_int Tryz.underlying33 (hval 2 33 v2 rfl rfl) h2;have b2:=bounds_u64 w2;obtain⟨a3,rfl,rfl,rfl,w3⟩:=Go.ChangeMaps.open_string Tryz.underlying9 (hval 3 9 v3 rfl rfl) h3;clear hA0 hV0 hval0;refine(Wy a0 a1 a2 a3 om om om om om om (xA hX.1) (Ib hX.2.1) (IK hX.2.2)).mono fun e W' ⟨he,hgb⟩=>?_;subst he;obtain⟨_,hq⟩:=gu enc hgb hX (fun b=>decide (b<W.heap.size));exact⟨_,rfl,_,_,_,[],_,_,hW',(trodAll_cons_mk (shut_bool Tryz.underlying4 _) trodAll_mk0),(trodAll_cons_mk (shut_int Tryz.underlying33 w0) (trodAll_cons_mk (shut_int Tryz.underlying33 w1) (trodAll_cons_mk (shut_int Tryz.underlying33 w2) (trodAll_cons_mk (Go.ChangeMaps.shut_string Tryz.underlying9 w3) trodAll_mk0)))),hq,Below.frame hgb _,fun h=>by cases h⟩
theorem over:Rows.fnExactSampleRow.holds Tryz.pinned (OpenSpec.ofChange Rows.fnExactSampleSpec):=
 OpenClaim.holds_of_wide 5 Tryz.f5 rfl rfl rfl rfl rfl rfl rfl ⟨rfl,rfl,rfl,rfl,rfl⟩ rfl rfl rfl rfl rfl (by kernel_rfl) func5 (by kernel_rfl)
  (of_decide_eq_true (by kernel_rfl)) (by unfold Func.isWrapper;first|(rw[if_pos (by decide+kernel)];kernel_rfl)|(rw[if_neg (by decide+kernel)];exact⟨rfl,rfl⟩))
  (fun os started H enc _=>lifted os started H enc)
end Go.Proofs.YtmiekgjgpmfekaaGreatDoor.fnExactSample
namespace Go.Proofs.YtmiekgjgpmfekaaGreatDoor
open Go
theorem FnExactSample_holds:Rows.FnExactSampleCardSaid:=
 Claim7.holds_tied_plain_at .later [] [.wider,.data,.data] true (true,"4a6e21431519bc8fa0358fc74cf5071266168f51db2d33ec99ab440d42f880d6") false
  fnExactSample.over (fun _ h=>by cases h) (by kernel_rfl) (fun _ h=>by cases h) fnExactSample_row_tie rfl ⟨rfl,rfl⟩ (by kernel_rfl) rfl
  (fun f fn hf hfn=>by
   obtain rfl:f=5:=Option.some.inj ((show Tryz.prog.funcNamed "loop.example/s01330/laws.FnExactSample" =some 5 by kernel_rfl).symm.trans hf)|>.symm
   obtain rfl:fn=Tryz.f5:=(Option.some.inj (func5.symm.trans hfn)).symm;exact⟨by kernel_rfl,fun j t ht=>by
    rw[Tryz.params5]at ht;have hm:t ∈ [33,33,33,9]:=by simpa using Array.mem_of_getElem? ht
    have hall:([33,33,33,9].all fun u=> !Tryz.prog.wantsStandIn u)=true:=by kernel_rfl
    exact(show Tryz.prog.wantsStandIn t=false by simpa using List.all_eq_true.1 hall t hm)⟩)
  (by kernel_rfl)
#print axioms FnExactSample_holds
