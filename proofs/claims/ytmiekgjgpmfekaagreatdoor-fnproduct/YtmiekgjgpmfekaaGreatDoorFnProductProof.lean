import Derived.Test.YtmiekgjgpmfekaaGreatDoorDr
import Derived.BigRegion
import Derived.Test.YtmiekgjgpmfekaaGreatDoorVs
import Derived.Test.YtmiekgjgpmfekaaGreatDoorT8
import Derived.Test.YtmiekgjgpmfekaaGreatDoorCards
import Derived.Test.YtmiekgjgpmfekaaGreatDoorTie
import Derived.Lib.SmallJoins
import Derived.SevenTiedAt
set_option linter.all false
set_option maxRecDepth 1000000
set_option maxHeartbeats 40000000
open Go.IntKind renaming i64 → J
open Go.Proofs.Tryz
namespace Go.Proofs.YtmiekgjgpmfekaaGreatDoor
open Go.RowKit
theorem oZ{P:Prop}(h:P:=by
 go_region;all_goals
  go_wp2;go_roundw
  case rel=>exact⟨j+1,om,by go_num,Ow.congr (Ow.store (Ow.drew HOx.out) q r) (fun m hm=>HN m om),by have:=HGx.out;exact kg⟩
  case measure=>simp[intOf]<;>omega):P:=h
attribute [local go_sem] aj
theorem QA(a:Option Addr)(len cap:Nat)(hlen:len<=1048576)(K:Int){w:World}
  (HD:Hid (∀w0,Gb w w0->CT 29 #[.slice a len cap] w0 fun e w'=>∃vf vg,e=.returned (.tuple #[.int J K,vf,vg])/\Gb w0 w'/\Hid (∀w'',Gb w' w''->oK 30 K vf vg w''/\oK 31 K vf vg w''))):
  QB 7 #[.slice a len cap] w (.bool true):=by
 have hl:¬(1048576:Int)<(len:Int):=om;go_enter func7,ntmps7;go_upto_region 4 with(go_at_call 29;refine(HD _ (Gb.refl _)).mono ?_;rintro e w1 ⟨vf,vg,rfl,ak,HP⟩);go_upto_region 5 with(go_at_call 29;refine(HD _ kg).mono ?_;rintro e w2 ⟨vf',vg',rfl,aA,HP'⟩);go_upto_region 6 with(go_at_call 30;refine(HP' _ kg).1.mono ?_;rintro e w3 ⟨v,rfl,_,aF⟩);go_upto_region 7 with(go_at_call 31;refine(HP _ kg).2.mono ?_;rintro e w4 ⟨v',rfl,ho,aI⟩);obtain⟨x,c,rfl,_,_⟩:=ho.len;go_wp2;go_returns;exact⟨rfl,kg⟩
theorem MX(a:Option Addr)(len cap:Nat)(hlen:len<=1048576)(K:Int)(n:Nat)(hn0:0<n)(hn:n<=64)(f g P:Nat->Int){w:World}(Hf:Hid (∀i,i<n->zX (f i)))(Hg:Hid (∀i,i<n->zX (g i)))
  (HP:Hid (∀m,m<n->P m=sm (fun i=>f i*sh n g i m) n))
  (HD:Hid (∀w0,Gb w w0->CT 29 #[.slice a len cap] w0 fun e w'=>∃bf cf bg cg,e=.returned (.tuple #[.int J K,aB bf n cf,aB bg n cg])/\Gb w0 w'/\
   Hid (∀w'',Gb w' w''->(∀j,j<n->aj w'' bf j (.int J (f j)))/\(∀j,j<n->aj w'' bg j (.int J (g j)))/\
    (CT 30 #[.int J K,aB bf n cf,aB bg n cg] w'' fun e w3=>∃v,e=.returned (.tuple #[v,.bool true])/\Gb w'' w3)/\
    (CT 31 #[.int J K,aB bf n cf,aB bg n cg] w'' fun e w3=>∃b c,e=.returned (.tuple #[aB b n c,.bool true])/\Hid (∀j,j<n->aj w3 b j (.int J (P j)))/\Gb w'' w3)))):
  QB 7 #[.slice a len cap] w (.bool true):=by
 have hl:¬(1048576:Int)<(len:Int):=om;have hmk:∀w,(Instr.makeSlice 45 (.int J (n:Int)) (.int J (n:Int))).run Tryz.prog w=.ok (aB w.heap.size n n) (w.alloc (.cells (madeCells #[.int J 0] (n*1)) 3)):=fun w=>mO 45 3 (.int J 0) 1 8 Tryz.underlying45 QY de n om w;rw[Nat.mul_one]at hmk;go_enter func7,ntmps7;go_upto_region 4 with(go_at_call 29;refine(HD _ (Gb.refl _)).mono ?_;rintro e w1 ⟨bf,cf,bg,cg,rfl,ak,H1⟩);go_upto_region 5 with(go_at_call 29;refine(HD _ kg).mono ?_;rintro e w2 ⟨bf',cf',bg',cg',rfl,aA,H2⟩);go_upto_region 6 with(go_at_call 30;refine(H2 _ kg).2.2.1.mono ?_;rintro e w3 ⟨v,rfl,aF⟩);go_upto_region 7 with(go_at_call 31;refine(H1 _ kg).2.2.2.mono ?_;rintro e w4 ⟨bo,co,rfl,HC,aI⟩);have HG:Hid (Gb w w4):=(show Gb w w4 from kg);have HA:Hid (∀w',Gb w4 w'->(∀j,j<n->aj w' bf' j (.int J (f j)))/\(∀j,j<n->aj w' bg' j (.int J (g j)))/\∀j,j<n->aj w' bo j (.int J (P j))):=fun w' hg=>⟨(H2 _ ((aF.trans aI).trans hg)).1,(H2 _ ((aF.trans aI).trans hg)).2.1,fun j hj=>hg.old (HC j hj)⟩;clear H1 H2 HC HD ak aA aF aI;go_wp2;go_loopw [15] (fun s15 wr=>∃i:Nat,i<=n/\s15=.int J i/\Ow wr w4.heap.size 3 1 J (aB w4.heap.size n n) n (pw n f g i 0)/\Gb w4 wr) (fun i _=>n-(intOf i).toNat)
 case atStart=>
  have:=Ow.made w4 3 1 #[.int J 0] J (z1 J) n om;rw[Nat.mul_one]at this;exact⟨0,om,rfl,this.congr (fun j _=>by rw[YE];rfl),kg⟩
 case round=>
  obtain⟨i,hi,rfl,hO,hG⟩:=hrel;have HO:Hid (Ow wr w4.heap.size 3 1 J (aB w4.heap.size n n) n (pw n f g i 0)):=hO;have Kw:Hid (Gb w4 wr):=hG;clear hO hG;by_cases hlt:(i:Int)<(n:Int)
  ·go_wp2;go_loopw [16] (fun s16 wx=>∃j:Nat,j<=n/\s16=.int J j/\Ow wx w4.heap.size 3 1 J (aB w4.heap.size n n) n (pw n f g i j)/\Gb w4 wx) (fun j _=>n-(intOf j).toNat)
   case atStart=>exact⟨0,om,rfl,HO.out,Kw.out⟩
   case round=>
    obtain⟨j,hj,rfl,hO,hG⟩:=hrel;by_cases hjl:(j:Int)<(n:Int)
    ·obtain⟨fA,gA,_⟩:=HA _ hG;have c1:=fA i om;have c2:=gA j om;have hxy:=aDY (Hf i om) (Hg j om);have HGx:Hid (Gb w4 wr):=hG;have HOx:Hid (Ow wr w4.heap.size 3 1 J (aB w4.heap.size n n) n (pw n f g i j)):=hO;obtain⟨b',c',e',_,_,_,_,hcell⟩:=hO.at hn0;simp only[Value.slice.injEq,Option.some.injEq,Addr.mk.injEq,and_true,true_and]at e';obtain⟨rfl,rfl⟩:=e';obtain⟨y,hy⟩:∃y,f i=y:=⟨_,rfl⟩;obtain⟨z,hz⟩:∃z,g j=z:=⟨_,rfl⟩;obtain⟨p,hp⟩:∃p,y*z=p:=⟨_,rfl⟩;rw[hy]at c1 hxy;rw[hz]at c2 hxy;rw[hp]at hxy;by_cases hs:i+j<n
     ·obtain⟨q,hq⟩:∃q,i+j=q:=⟨_,rfl⟩;obtain⟨c3,z3⟩:=hcell q om;have hin:=aDX hn Hf.out Hg.out (i:=i) (j:=j) (m:=q) om om;obtain⟨x,hx⟩:∃x,pw n f g i j q=x:=⟨_,rfl⟩;obtain⟨r,hr⟩:∃r,x+p=r:=⟨_,rfl⟩;have HN:Hid (∀m,m<n->(if m=q then r else pw n f g i j m)=pw n f g i (j+1) m):=fun m hm=>by
       have:=aGl (f:=f) (g:=g) hs hm;rw[hq,hx,hy,hz,hp,hr]at this;exact this
      rw[hx]at c3 hin;unfold In' at hin hxy;have wq:IntKind.i64.wrap (q:Int)=q:=wi;have wp:IntKind.i64.wrap p=p:=wi;have wr':IntKind.i64.wrap r=r:=wi;have e1:(i:Int)+(j:Int)=(q:Int):=om;have l1:(q:Int)<(n:Int):=om;clear hO hG hcell fA gA hx hy hz hq hs hin hxy;go_upto_region 20 with(fail);exact oZ
     ·obtain⟨q,hq⟩:∃q,i+j=q+n:=⟨i+j-n,om⟩;obtain⟨c3,z3⟩:=hcell q om;have hin:=aDX hn Hf.out Hg.out (i:=i) (j:=j) (m:=q) om om;obtain⟨x,hx⟩:∃x,pw n f g i j q=x:=⟨_,rfl⟩;obtain⟨r,hr⟩:∃r,x-p=r:=⟨_,rfl⟩;have HN:Hid (∀m,m<n->(if m=q then r else pw n f g i j m)=pw n f g i (j+1) m):=fun m hm=>by
       have:=aGm (f:=f) (g:=g) hq om om hm;rw[hx,hy,hz,hp,hr]at this;exact this
      rw[hx]at c3 hin;unfold In' at hin hxy;obtain⟨s,e1⟩:∃s:Int,(i:Int)+(j:Int)=s:=⟨_,rfl⟩;have ws:IntKind.i64.wrap s=s:=wi;have wq:IntKind.i64.wrap (q:Int)=q:=wi;have wp:IntKind.i64.wrap p=p:=wi;have wr':IntKind.i64.wrap r=r:=wi;have e2:s-(n:Int)=(q:Int):=om;have l1:¬s<(n:Int):=om;have l2:(q:Int)<(n:Int):=om;clear hO hG hcell fA gA hx hy hz hq hs hin hxy;go_upto_region 21 with(fail);exact oZ
    ·have HE:Hid (j=n):=(show j=n by omega);go_wp2;go_roundw
     case rel=>exact⟨i+1,om,by go_num,hO.congr (fun m hm=>by rw[HE.out];exact aEW om om),hG⟩
     case measure=>simp[intOf]<;>omega
  ·have HE:Hid (i=n):=(show i=n by omega)
   rename World=>V
   have HW:Hid (∀w',Gb V w'->∀j,j<n->aj w' w4.heap.size j (.int J (P j))/\aj w' bo j (.int J (P j))):=fun w' hg j hj=>by
    refine⟨?_,(HA w' (Kw.out.trans hg)).2.2 j hj⟩;obtain⟨b',c',e',_,_,_,_,hcell⟩:=HO.out.at hn0;simp only[Value.slice.injEq,Option.some.injEq,Addr.mk.injEq,and_true,true_and]at e';obtain⟨rfl,rfl⟩:=e';have:=(hcell j om).1;rw[YE,HE.out,<-HP.out j hj]at this;exact hg.old this
   have HGV:Hid (Gb w V):=HG.out.trans Kw.out;clear HO Kw HA HG HP Hf Hg;go_wp2;go_loopw [17] (fun s17 wx=>∃q:Nat,q<=n/\s17=.int J q/\Gb V wx) (fun i _=>n-(intOf i).toNat)
   case atStart=>exact⟨0,Nat.zero_le _,rfl,Gb.refl _⟩
   case round=>
    obtain⟨q,hq,rfl,hgx⟩:=hrel;by_cases hql:(q:Int)<(n:Int)
    ·obtain⟨c1,c2⟩:=HW _ hgx q om;generalize P q=x at*
     go_wp2;go_region;all_goals
      go_wp2;go_roundw
      case rel=>exact⟨q+1,om,by go_num,kg⟩
      case measure=>simp[intOf]<;>omega
    ·go_wp2;go_returns;exact⟨rfl,HGV.out.trans hgx⟩
theorem Jp(a:Option Addr)(len cap:Nat)(w:World)(hC:dM w a len)(hw:Fm w):
  CT 7 #[.slice a len cap] w fun e w'=>e=.returned (.bool true)/\Below w.heap.size w w':=by
 obtain⟨ch0⟩:=TU;have hch:Inhabited Ch:=⟨ch0⟩;obtain⟨c,hc⟩:=hC.is;have hd:∀w0,Gb w w0->_:=fun w0 g=>vk cap (hc.gb g);have hN:dN c len<=128:=by
  obtain⟨⟨_,k1⟩,_⟩:=o8 cap 0 40 hc om om om;exact Nat.le_trans (Nat.pow_le_pow_right de (Ro _ k1)) de
 have hL:dL c len<=129:=by unfold dL;split<;>omega
 generalize dN c len=N at*
 generalize dL c len=L at*
 generalize dF c len=F at*
 generalize dG c len=G at*
 generalize((WU (tk c len 0 40):Nat):Int)=K at*
 by_cases hfit:J5 K L N F G
 ·have TJ:=hfit;obtain⟨h1,h6,⟨eL,hF⟩,eN,hG⟩:=hfit;obtain rfl:L=N:=om;obtain⟨k,hk⟩:∃k,k=K.toNat:=⟨_,rfl⟩;have hk1:1<=k:=om;have hk6:k<=6:=om;rw[<-hk]at eL;have hn0:0<L:=by rw[eL];exact Nat.pow_pos de
  have CV:L<=64:=by rw[eL];exact uJ om
  have hP:∀m,m<L->pF cZ tiW k F G m=sm (fun i=>F i*sh L G i m) L:=fun m hm=>by
   obtain⟨hi,ht⟩:=Qm k hk1 hk6 F G (fun i hi=>hF i om) (fun i hi=>hG i om) m om;unfold pF;rw[ht,eL,<-aAa k F G m hk1 om,IntKind.wrap_i64];unfold In' at hi;omega
  refine MX a len cap hC.few K L hn0 CV F G (pF cZ tiW k F G) hF hG hP fun w0 g=>?_;refine(hd w0 g).mono fun e w' ⟨vf,vg,he,hof,hog,hg⟩=>?_;have rf:=jI hof;have rg:=jI hog;obtain⟨bf,cf,rfl,_,_,cf'⟩:=rf.at hn0;obtain⟨bg,cg,rfl,_,_,cg'⟩:=rg.at hn0;refine⟨bf,cf,bg,cg,he,hg,fun w'' g'=>⟨fun j hj=>g'.old (cf' j hj),fun j hj=>g'.old (cg' j hj),?_,?_⟩⟩
  ·exact(JX EG lZ SG K TJ (rf.gb g').ro (rg.gb g').ro).mono fun e w3 ⟨v,e1,_,e3⟩=>⟨v,e1,e3⟩
  ·refine(aAC Je QX lZ SH K TJ (hw.gb (g.trans (hg.trans g'))) (rf.gb g').ro (rg.gb g').ro).mono fun e w3 ⟨v,e1,e2,e3⟩=>?_;rw[<-hk,<-eL]at e2;obtain⟨b,cp,rfl,_,_,_,_,hcell⟩:=e2.at hn0;exact⟨b,cp,e1,fun j hj=>(hcell j om).1,e3⟩
 ·refine QA a len cap hC.few K fun w0 g=>(hd w0 g).mono fun e w' ⟨vf,vg,he,hof,hog,hg⟩=>⟨vf,vg,he,hg,fun w'' g'=>?_⟩;exact⟨(Dz hfit om om).1 ((jI hof).gb g').ro ((jI hog).gb g').ro,(Dz hfit om om).2 QX (hw.gb (g.trans (hg.trans g'))) ((jI hof).gb g').ro ((jI hog).gb g').ro⟩
end Go.Proofs.YtmiekgjgpmfekaaGreatDoor
namespace Go.Proofs.YtmiekgjgpmfekaaGreatDoor.fnProduct
open Go.ChangeShapes Go.WideShapes Go.ChangeAt Go.RowKit Go.Joins
theorem laidOut:laidOutB Tryz.prog=true:=by kernel_rfl
theorem MS(a0:Option Addr)(l0 c0:Nat)(w:World)(h0:(1048576:Int)<(l0:Int)):
  CT 7 #[.slice a0 l0 c0] w fun e w'=>e=.returned (.bool true)/\Below w.heap.size w w':=by
 go_enter func7,ntmps7;go_wp2;go_ret;exact⟨rfl,Below.refl _ _⟩
theorem codeRow{w:World}{a:Option Addr}{len cap:Nat}(hl:len<=1048576)
  (h:len=0\/∃(x:Addr) (zs:List Int),a=some x/\len<=zs.length/\(∀i,i<zs.length->w.cell? (x.add i)=some (.int .u8 (zs.getD i 0)))/\∀n ∈ zs,(Lit.int .u8 n).wf =true):dM w a len:=by
 refine⟨hl,?_⟩;rcases h with e|⟨x,zs,rfl,hz,hc,hw⟩
 ·exact .inl e
 ·rcases(show len=0\/0<len by omega)with e|hp
  ·exact .inl e
  ·obtain⟨b,off,rfl,hcell⟩:=ints_at hc om;refine .inr ⟨b,off,rfl,fun i hi=>⟨zs.getD i 0,?_,?_,hcell i om⟩⟩
   ·rw[List.getD_eq_getElem?_getD];exact(range_u8 hw i).1
   ·rw[List.getD_eq_getElem?_getD];exact(range_u8 hw i).2
theorem walk(a0:Option Addr)(l0 c0:Nat)(w:World)(v0:Fm w)
  (h0:l0=0\/∃(x:Addr) (zs:List Int),a0=some x/\l0<=zs.length/\(∀i,i<zs.length->w.cell? (x.add i)=some (.int .u8 (zs.getD i 0)))/\∀n ∈ zs,(Lit.int .u8 n).wf =true)
  :CT 7 #[.slice a0 l0 c0] w fun e w'=>e=.returned (.bool true)/\Below w.heap.size w w':=by
 rcases(show 1048576<l0\/l0<=1048576 by omega)with k0|k0
 ·exact MS a0 l0 c0 w om
 exact Jp a0 l0 c0 w (codeRow (cap:=c0) k0 h0) v0
abbrev mP:List (String × DataW Unit):=[(jm,Rows.laid_loop_example_s01330_impl_formats)]
theorem door_met(os:Os)(args:Array Value):laidMetH Tryz.prog mP ((World.doorLaid Tryz.prog 16 os).forCall (fun _ _=>0) ⟨#[],args,[]⟩).memory :=
 laidMetH_of_parts3 (fuel:=8) (laidMet_of_run' 8 (by kernel_rfl) (by kernel_rfl)) (by kernel_rfl) (by kernel_rfl)
def vH(W:World):Prop:=W.var? Tryz.prog jm=some fJ
theorem kF{W:World}(h:laidMetH Tryz.prog mP W):vH W:=by
 rw[MakeChecks.laidMetH_plain _ _ _ (by kernel_rfl)]at h;obtain⟨ps,hl,_⟩:=h;obtain⟨x0,l0⟩:=qV ⟨ps,hl⟩;exact aEi x0
theorem jX{H:Type}(enc:TypeId × Value->H){W W':World}(hb:Below W.heap.size W W')(hv:vH W)(sp:Nat->Bool):
  ∃q,DataW.TrodVars enc Tryz.prog W' sp [jm] [vC] q:=by
 have h0:W.var? Tryz.prog jm=some fJ:=hv;exact⟨_,⟨_,165,fJ,4,[],_,gF,tF,uq gF hb h0,reads_table enc W' sp,rfl,rfl⟩⟩
theorem jy{H:Type}{enc:TypeId × Value->H}{W:World}{gs:List (DataW H)}{q:List MemPlace}(hv:vH W)(hV:DataW.TrodVars enc Tryz.prog W (fun _=>true) [jm] gs q):gs=[vC]:=by
 have h0:W.var? Tryz.prog jm=some fJ:=hv;obtain⟨d0,gs0,rfl⟩:∃d l,gs=d::l:=by cases gs<;>simp[DataW.TrodVars]at hV⊢
 obtain⟨a0,b0,c0,f0,p0,q0,e0,k0,m0,n0,hV,_⟩:=hV;obtain rfl:=Option.some.inj (gF.symm.trans e0);obtain rfl:=Option.some.inj (tF.symm.trans k0);obtain rfl:c0=fJ:=Option.some.inj (m0.symm.trans h0);obtain⟨rfl,rfl⟩:=DataW.Trod.unique (v:=.agg fJ) ⟨f0,n0⟩ ⟨4,reads_table enc W _⟩;cases gs0<;>simp[DataW.TrodVars]at hV⊢
theorem lifted(os:Os)(started:os.Started)(H:Type)(enc:TypeId × Value->H):
  ReturnsInHanded {} Tryz.checked os 7 .any (fun w args=>(Rows.fnProductSpec.pre enc Tryz.prog Tryz.f7 [] false w args/\laidMetH Tryz.prog mP w)/\sizedMet enc Tryz.prog Tryz.f7 (OpenSpec.ofChange Rows.fnProductSpec) false w args)
   (Rows.fnProductSpec.post enc Tryz.prog Tryz.f7 false true false false):=by
 refine returnsInHanded_of_change_and (C:=Tryz.checked) (X:=fun w _=>laidMetH Tryz.prog mP w) (fun _ _ _ hh h=>h.of_heap hh) YR started (by kernel_rfl) func7
  (ChangeSpec.witness_shaped (enc:=enc) (C:=Tryz.checked) (os:=os) (X:=fun w _=>laidMetH Tryz.prog mP w) false (World.doorLaid Tryz.prog 16 os) #[.slice none 0 0] 8 rfl (World.shaped_of_RefB (by kernel_rfl) (by kernel_rfl)) (by kernel_rfl) (by kernel_rfl) (by kernel_rfl) (door_met os _)) ?_
 intro W base args ds gs before hval0 hW _ _ hL _;have hval:∀(j:Nat) t v,Tryz.f7.params[j]?=some t->args[j]?=some v->Value.okWide Tryz.prog W .any base t v:=hval0;have hW':=hW;obtain⟨p,q,hA0,hV0,rfl,hfz,hnd⟩:=hW;have hA:DataW.TrodAll enc Tryz.prog W 0 (fun _=>true) true Tryz.f7.params.toList args.toList ds p:=hA0;have hV:DataW.TrodVars enc Tryz.prog W (fun _=>true) [jm] gs q:=hV0;rw[Tryz.params7]at hA hval;obtain⟨v0,vs0,d0,ds0,p0,q0,hargs,rfl,rfl,h0,r0⟩:=trodAll_cons hA;obtain⟨rfl,rfl,rfl⟩:=trodAll_nil r0;obtain rfl:args=#[v0]:=by cases args;simp_all
 have hX:=kF hL;obtain rfl:=jy hX hV;obtain⟨a0,len0,cap0,rfl⟩:=okWide_slice Tryz.underlying44 (hval 0 44 v0 rfl rfl);have k0:=h0;have lt0:∀x ∈ p0,x.block<W.heap.size:=by obtain⟨m,hm⟩:=k0;exact DataW.trod_lt m _ _ _ hm
 have w0:len0=0\/∃(x:Addr) (zs:List Int),a0=some x/\len0<=zs.length/\(∀i,i<zs.length->W.cell? (x.add i)=some (.int .u8 (zs.getD i 0)))/\∀n ∈ zs,(Lit.int .u8 n).wf =true:=by
  obtain⟨fuel,hf⟩:=h0;rcases open_ints Tryz.underlying44 Tryz.underlying5 (by kernel_rfl) hf with⟨hcs,_⟩|⟨x,l,c,zs,hcs,_,hl,hm,hz,_,hcell,hwz⟩
  ·simp[Value.cells]at hcs;obtain⟨rfl,rfl,rfl⟩:=hcs;exact .inl rfl
  ·simp[Value.cells]at hcs;obtain⟨rfl,rfl,rfl⟩:=hcs;have hz':zs.length=cap0:=by simpa using hz
   exact .inr ⟨x,zs,rfl,om,hcell,hwz⟩
 clear hA0 hV0 hval0;refine(walk a0 len0 cap0 W (AU hX) w0).mono fun e W' ⟨he,hgb⟩=>?_;subst he;obtain⟨_,hq⟩:=jX enc hgb hX (fun b=>decide (b<W.heap.size));exact⟨_,rfl,_,_,_,[],_,_,hW',(trodAll_cons_mk (shut_bool Tryz.underlying4 _) trodAll_mk0),(trodAll_cons_mk (Below.trod laidOut (by kernel_rfl) (of_decide_eq_true (by kernel_rfl)) k0 hgb lt0) trodAll_mk0),hq,Below.frame hgb _,fun h=>by cases h⟩
theorem over:Rows.fnProductRow.holds Tryz.pinned (OpenSpec.ofChange Rows.fnProductSpec):=
 OpenClaim.holds_of_wide 7 Tryz.f7 rfl rfl rfl rfl rfl rfl rfl ⟨rfl,rfl,rfl,rfl,rfl⟩ rfl rfl rfl rfl rfl (by kernel_rfl) func7 (by kernel_rfl)
  (of_decide_eq_true (by kernel_rfl)) (by unfold Func.isWrapper;first|(rw[if_pos (by decide+kernel)];kernel_rfl)|(rw[if_neg (by decide+kernel)];exact⟨rfl,rfl⟩))
  (fun os started H enc _=>lifted os started H enc)
end Go.Proofs.YtmiekgjgpmfekaaGreatDoor.fnProduct
namespace Go.Proofs.YtmiekgjgpmfekaaGreatDoor
open Go
theorem FnProduct_holds:Rows.FnProductCardSaid:=
 Claim7.holds_tied_plain_at .later [] [.wider] true (true,"4a6e21431519bc8fa0358fc74cf5071266168f51db2d33ec99ab440d42f880d6") false
  fnProduct.over (fun _ h=>by cases h) (by kernel_rfl) (fun _ h=>by cases h) fnProduct_row_tie rfl ⟨rfl,rfl⟩ (by kernel_rfl) rfl
  (fun f fn hf hfn=>by
   obtain rfl:f=7:=Option.some.inj ((show Tryz.prog.funcNamed "loop.example/s01330/laws.FnProduct" =some 7 by kernel_rfl).symm.trans hf)|>.symm
   obtain rfl:fn=Tryz.f7:=(Option.some.inj (func7.symm.trans hfn)).symm;exact⟨by kernel_rfl,fun j t ht=>by
    rw[Tryz.params7]at ht;have hm:t ∈ [44]:=by simpa using Array.mem_of_getElem? ht
    have hall:([44].all fun u=> !Tryz.prog.wantsStandIn u)=true:=by kernel_rfl
    exact(show Tryz.prog.wantsStandIn t=false by simpa using List.all_eq_true.1 hall t hm)⟩)
  (by kernel_rfl)
#print axioms FnProduct_holds
