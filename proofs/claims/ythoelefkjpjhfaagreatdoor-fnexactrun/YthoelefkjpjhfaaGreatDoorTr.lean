import Derived.Test.YthoelefkjpjhfaaGreatDoorT8
import Derived.Test.YthoelefkjpjhfaaGreatDoorCards
import Derived.Test.YthoelefkjpjhfaaGreatDoorTie
import Derived.Lib.SmallJoins
import Derived.SevenTiedAt
import Derived.ChangeMaps5
import Derived.Lay
set_option linter.all false
namespace Go.Proofs.YthoelefkjpjhfaaGreatDoor
open Go.RowKit
def aKE(s:aJ){w:ak}(hw:Fm w)(hT:Tl w)(hD:Dc w)(hb:Db w)(hp:Pw w)(hm:Ml w):CT 3 #[.string s] w λe w'=>e=.returned (.bool true)/\Below w.heap.size w w':=by
 obtain⟨ch0⟩:=aNy;have hch:Inhabited Ch:=⟨ch0⟩;exact aOF hall s w ⟨hw,hb,hp⟩ hm ⟨hT,hD⟩
end Go.Proofs.YthoelefkjpjhfaaGreatDoor
set_option maxRecDepth 1000000
namespace Go.Proofs.YthoelefkjpjhfaaGreatDoor.fnExactRun
open Go.ChangeShapes Go.WideShapes Go.ChangeAt Go.RowKit Go.Joins
abbrev Bf:List (String × DataW Unit):=Rows.fnExactRunRow.laid
def Qb(W:ak):Prop:=W.var? Tryz.prog yK=some wF/\W.var? Tryz.prog yJ=some sZ/\W.var? Tryz.prog yL=some nP
def zG{W:ak}(h:laidMetH Tryz.prog Bf W):Qb W/\Db W/\Pw W:=by
 rw[MakeChecks.laidMetH_plain _ _ _ (by kernel_rfl)]at h;obtain⟨ps,hl,_⟩:=h;obtain⟨_,l⟩:=jG ⟨ps,hl⟩;obtain⟨x1,l⟩:=jG l;obtain⟨x2,l⟩:=jG l;obtain⟨_,l⟩:=jG l;obtain⟨x4,l⟩:=jG l;obtain⟨x5,l⟩:=jG l;obtain⟨x6,l⟩:=jG l;exact⟨⟨aPZ x4,aPY x5,aP0 x6⟩,PU x1,Om x2⟩
def DX{H:Type}(enc:TypeId × Value->H){W W':ak}(hb:Below W.heap.size W W')(hv:Qb W)(sp:Nat->Bool):
  ∃q,DataW.TrodVars enc Tryz.prog W' sp [yK,yJ,yL] [Y4,N7 ET,N7 yg] q:=by
 obtain⟨h0,h1,h2⟩:=hv;exact⟨_,⟨_,247,wF,4,[],_,gF,tF,yC gF hb h0,reads_table enc W' sp,⟨_,305,sZ,4,[],_,gT,tT,yC gT hb h1,UG enc W' sp,⟨_,306,nP,4,[],_,gD,tD,yC gD hb h2,UH enc W' sp,rfl,rfl⟩,rfl⟩,rfl⟩⟩
def AP{H:Type}{enc:TypeId × Value->H}{W:ak}{gs:List (DataW H)}{q:List MemPlace}(hv:Qb W)(hV:DataW.TrodVars enc Tryz.prog W (λ_=>true) [yK,yJ,yL] gs q):gs=[Y4,N7 ET,N7 yg]:=by
 obtain⟨h0,h1,h2⟩:=hv;obtain⟨d0,gs0,rfl⟩:∃d l,gs=d::l:=by cases gs<;>simp[DataW.TrodVars]at hV⊢
 obtain⟨a0,b0,c0,f0,p0,q0,e0,k0,m0,n0,hV,_⟩:=hV;obtain rfl:=Option.some.inj (gF.symm.trans e0);obtain rfl:=Option.some.inj (tF.symm.trans k0);obtain rfl:c0=wF:=Option.some.inj (m0.symm.trans h0);obtain⟨rfl,rfl⟩:=DataW.Trod.unique (v:=.agg wF) ⟨f0,n0⟩ ⟨4,reads_table enc W _⟩;obtain⟨d1,gs1,rfl⟩:∃d l,gs0=d::l:=by cases gs0<;>simp[DataW.TrodVars]at hV⊢
 obtain⟨a1,b1,c1,f1,p1,q1,e1,k1,m1,n1,hV,_⟩:=hV;obtain rfl:=Option.some.inj (gT.symm.trans e1);obtain rfl:=Option.some.inj (tT.symm.trans k1);obtain rfl:c1=sZ:=Option.some.inj (m1.symm.trans h1);obtain⟨rfl,rfl⟩:=DataW.Trod.unique (v:=.agg sZ) ⟨f1,n1⟩ ⟨4,UG enc W _⟩;obtain⟨d2,gs2,rfl⟩:∃d l,gs1=d::l:=by cases gs1<;>simp[DataW.TrodVars]at hV⊢
 obtain⟨a2,b2,c2,f2,p2,q2,e2,k2,m2,n2,hV,_⟩:=hV;obtain rfl:=Option.some.inj (gD.symm.trans e2);obtain rfl:=Option.some.inj (tD.symm.trans k2);obtain rfl:c2=nP:=Option.some.inj (m2.symm.trans h2);obtain⟨rfl,rfl⟩:=DataW.Trod.unique (v:=.agg nP) ⟨f2,n2⟩ ⟨4,UH enc W _⟩;cases gs2<;>simp[DataW.TrodVars]at hV⊢
def lifted(os:Go.Os)(started:os.Started)(H:Type)(enc:TypeId × Value->H):
  ReturnsInHanded {} Tryz.checked os 3 .any (λw args=>(Rows.fnExactRunSpec.pre enc Tryz.prog Tryz.f3 [] false w args/\laidMetH Tryz.prog Bf w)/\sizedMet enc Tryz.prog Tryz.f3 (OpenSpec.ofChange Rows.fnExactRunSpec) false w args)
   (Rows.fnExactRunSpec.post enc Tryz.prog Tryz.f3 false true false false):=by
 refine returnsInHanded_of_calls aNj started (by kernel_rfl)
  (ChangeSpec.witness_shaped (enc:=enc) (C:=Tryz.checked) (os:=os) (X:=λw _=>laidMetH Tryz.prog Bf w) false (World.laidAll Tryz.prog os Bf) #[.string ⟨#[]⟩] 8 (World.laidAll_os _ _ _) (World.shaped_of_ZipB (by kernel_rfl) (by kernel_rfl)) (by kernel_rfl) (by kernel_rfl) (by kernel_rfl)
   (by rw[MakeChecks.laidMetH_plain _ _ _ (by kernel_rfl)];exact laidMet_laidAll _ (by kernel_rfl) (by kernel_rfl))) ?_
 intro w tape i _ hsh _ Cb hpre _;obtain⟨_,_,_,fn',aOZ,_,_,_,_,O9⟩:=Cb;obtain rfl:fn'=Tryz.f3:=Option.some.inj (aOZ.symm.trans Tryz.func3);obtain⟨⟨⟨ds,gs,before,hw0,_⟩,hL0⟩,_⟩:=hpre;have hL:laidMetH Tryz.prog Bf (w.forCall tape i):=hL0.of_heap (by rfl);have hW:=DataW.Whole.of_heap (w':=w.forCall tape i) (by rfl) hw0
 suffices h:CT 3 i.args (w.forCall tape i) λe W'=>∃v,e=.returned v/\Rows.fnExactRunSpec.post enc Tryz.prog Tryz.f3 false true false false (w.forCall tape i) i.args v W' from h.mono λe W' ⟨v,he,hp⟩=>by subst he;exact ChangeSpec.post_blind hp
 generalize w.heap.size=base at O9;generalize w.forCall tape i=W at*
 generalize i.args=args at*
 have aH2:∀(j:Nat) t v,Tryz.f3.params[j]?=some t->args[j]?=some v->Value.okWide Tryz.prog W .any base t v:=O9;have hW':=hW;obtain⟨p,q,hA0,hV0,rfl,hfz,hnd⟩:=hW;have hA:DataW.TrodAll enc Tryz.prog W 0 (λ_=>true) true Tryz.f3.params.toList args.toList ds p:=hA0;have hV:DataW.TrodVars enc Tryz.prog W (λ_=>true) [yK,yJ,yL] gs q:=hV0;rw[Tryz.params3]at hA aH2;obtain⟨v0,vs0,d0,ds0,p0,q0,aRO,rfl,rfl,h0,r0⟩:=trodAll_cons hA;obtain⟨rfl,rfl,rfl⟩:=trodAll_nil r0;obtain rfl:args=#[v0]:=by cases args;simp_all
 obtain⟨hX,hdb,hpw⟩:=zG hL;obtain rfl:=AP hX hV;obtain⟨a0,rfl,rfl,rfl,w0⟩:=Go.ChangeMaps.open_string Tryz.underlying9 (aH2 0 9 v0 rfl rfl) h0;clear hA0 hV0 O9;refine(aKE a0 (Tj hX.1) (RX hX.2.1) (Tt hX.2.2) hdb hpw (Kt hsh)).mono λe W' ⟨he,dQ⟩=>?_;subst he;obtain⟨_,hq⟩:=DX enc dQ hX (λb=>decide (b<W.heap.size));exact⟨_,rfl,_,_,_,[],_,_,hW',(trodAll_cons_mk (shut_bool Tryz.underlying4 _) trodAll_mk0),(trodAll_cons_mk (Go.ChangeMaps.shut_string Tryz.underlying9 w0) trodAll_mk0),hq,Below.frame dQ _,λh=>by cases h⟩
end Go.Proofs.YthoelefkjpjhfaaGreatDoor.fnExactRun
