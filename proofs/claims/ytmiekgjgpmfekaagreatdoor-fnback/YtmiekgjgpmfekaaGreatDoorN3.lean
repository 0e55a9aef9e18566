import Derived.Test.YtmiekgjgpmfekaaGreatDoorN2
set_option linter.all false
set_option maxRecDepth 1000000
set_option maxHeartbeats 40000000
open Option renaming none → I, some → D
open Go.Proofs.YtmiekgjgpmfekaaGreatDoor renaming vI → J, vU → Y
open Go.IntKind renaming u64 → O
open Go.Ending renaming returned → U
open Go.Proofs.Tryz
namespace Go.Proofs.YtmiekgjgpmfekaaGreatDoor
open Go.RowKit
variable{w w':World}{v u:Value}{n base size L p b m off cap:Nat}{g f:Nat->Int}{k:IntKind}{o:Ops}{t:TypeId}{a:Act}{Q:Exit->Act->World->Prop}{ops:Array Oper}{x0 x1:Int}
theorem aCR{P:Prop}(h:P:=by
 refine Ow.congr (g:=fun j=>if j=0 then x else y) this (fun j hj=>?_)
 match j,hj with
 |0,_=>exact e0.symm
 |1,_=>exact e1.symm):P:=h
theorem aCS{P:Prop}(h:P:=by
 go_wp2;go_roundw
 case rel=>exact⟨j+1,om,by go_num,hown4,Gb.below kg hb4 (Nat.le_refl _)⟩
 case measure=>simp[intOf]<;>omega):P:=h
attribute [local go_sem] aj bK
theorem Ow.nlt(h:Ow w base t size k v n g)(hp:p<base):v.ownBlock≠D p:=fun e=>by
 have:=(World.ownsRow.lt h p e).1;omega
def FN(o:Ops)(k:Nat):Prop:=∀(K:Int) (w:World) (v:Value) (cs:Nat->Int),K=(k:Int)->Rd w O v (2^k) (2^k) cs->(∀j,Wd (cs j))->
 CT 16 #[J K,v] w fun e w'=>∃v',e=U v'/\Ow w' w.heap.size 59 2 O v' (2^(k-1)) (flat (o.tr k cs))/\Gb w w'
theorem O4(o:Ops):FN o 1:=by
 intro K w v cs hK hr hcs;obtain rfl:K=1:=hK;have HS:KW 50 #[J 1] (J 2):=fun w=>qc 1 1 rfl om 2 rfl w;obtain⟨b,cap,rfl,h1,h2,hc⟩:=hr.at de;have c0:aj w b 0 (Y (cs 0)):=hc 0 de;have c1:aj w b 1 (Y (cs 1)):=hc 1 de;have e0:flat (o.tr 1 cs) 0=cs 0:=rfl;have e1:flat (o.tr 1 cs) 1=cs 1:=rfl;generalize flat (o.tr 1 cs)=f at*
 generalize cs 0=x at*
 generalize cs 1=y at*
 clear hr hc hcs;go_enter func16,ntmps16;go_wp2_with (go_at_call 50;refine kw (HS _) ?_);go_region;all_goals go_wp2
 all_goals go_returns
 all_goals
  refine⟨_,rfl,?_,kg⟩;have:=World.ownsRow_lit (base:=w.heap.size) (e:=59) (size:=2) w.drew #[Y x,Y y] 1 (Nat.le_refl _) de rfl;exact aCR
theorem Le(H:o.S)(HI:o.In)(k:Nat)(hk6:k+2<=6)(IH:FN o (k+1)):FN o (k+2):=by
 intro K w v cs hK hr hcs;unfold FN at IH;obtain⟨K1,hK1⟩:∃K1:Int,K1=((k+1:Nat):Int):=⟨_,rfl⟩;have uK:IntKind.i64.wrap (K-1)=K1:=wi;have k1:¬K<1:=om;have k2:¬(6:Int)<K:=om;have k3:(K==1)=false:=by simp;omega
 obtain⟨m,hm⟩:∃m,m=2^k:=⟨_,rfl⟩;have hm1:0<m:=by rw[hm];exact Nat.pow_pos de
 have hm2:m<=32:=by
  rw[hm];have:=Nat.pow_le_pow_right (show 0<2 by decide) (show k<=5 by omega);omega
 have ep1:2^(k+1)=2*m:=by rw[Nat.pow_succ,<-hm];omega
 obtain⟨L,hL⟩:∃L,L=2^(k+2):=⟨_,rfl⟩;have hLm:L=4*m:=by rw[hL,Nat.pow_succ,ep1];omega
 rw[<-hL]at hr;have HS:KW 50 #[J K] (J (L:Int)):=fun w=>qc K (k+2) hK om L (by rw[hL]) w;have hSp:∀(w':World) (v':Value) (e:Ending) (f:Nat->Int × Int) (b0:Nat),(∃u,e=U u/\Ow w' b0 59 2 O u m (flat f))->∃b cap,e=U (aB b m cap)/\b<w'.heap.size/\∀q,q<m*2->aj w' b q (Y (flat f q)):=fun w' v' e f b0 ⟨u,e1,e2⟩=>by
  obtain⟨b,cap,rfl,_,c2,_,_,c3⟩:=e2.at hm1;exact⟨b,cap,e1,c2,fun j hj=>(c3 j hj).1⟩
 have HE:∀(C:Int) (c:Nat),C=(c:Int)->c<=1->Hid (∀w',Gb w w'->CT 51 #[v,J C] w' fun e w''=>∃u,e=U u/\Rd w'' O u (2^(k+1)) (2^(k+1)) (fun q=>cs (2*q+c))/\Gb w' w''):=fun C c hC hc w' hg=>(aB4 C c hC hc w' v L (2*m) cs (hr.gb hg) om om om).mono fun e w'' ⟨u,e1,e2,e3⟩=>by
  rw[ep1];have:=e2.rd;rw[Nat.mul_one]at this;exact⟨u,e1,this,e3⟩
 have HT:∀c,Hid (∀w' u,Rd w' O u (2^(k+1)) (2^(k+1)) (fun q=>cs (2*q+c))->CT 16 #[J K1,u] w' fun e w''=>∃b cap,e=U (aB b m cap)/\b<w''.heap.size/\(∀q,q<m*2->aj w'' b q (Y (flat (o.tr (k+1) (fun q=>cs (2*q+c))) q)))/\Gb w' w''):=fun c w' u hu=>(IH K1 w' u _ hK1 hu (fun _=>hcs _)).mono fun e w'' ⟨v',e1,e2,e3⟩=>by
  rw[show k+1-1=k by omega,<-hm]at e2;obtain⟨b,cap,p1,p2,p3⟩:=hSp w'' v' e _ _ ⟨v',e1,e2⟩;exact⟨b,cap,p1,p2,p3,e3⟩
 have HE0:Hid (∀w',Gb w w'->CT 51 #[v,J 0] w' fun e w''=>∃u,e=U u/\Rd w'' O u (2^(k+1)) (2^(k+1)) (fun q=>cs (2*q+0))/\Gb w' w''):=HE 0 0 rfl om;have HE1:Hid (∀w',Gb w w'->CT 51 #[v,J 1] w' fun e w''=>∃u,e=U u/\Rd w'' O u (2^(k+1)) (2^(k+1)) (fun q=>cs (2*q+1))/\Gb w' w''):=HE 1 1 rfl om;have HT0:=HT 0;have HT1:=HT 1;obtain⟨R,hR⟩:∃R,R=2*m:=⟨_,rfl⟩;have HRt:Hid (∀w',CT 11 #[J K] w' fun e w''=>∃b cap,e=U (aB b R cap)/\b<w''.heap.size/\(∀q,q<R*2->aj w'' b q (Y (flat (o.rt (k+2)) q)))/\Gb w' w''):=fun w'=>by
  rw[hK];refine(I7 H HI (k+2) om hk6 w').mono fun e w'' ⟨u,e1,e2,e3⟩=>?_;rw[show k+2-1=k+1 by omega,ep1,<-hR]at e2;obtain⟨b,cap,rfl,_,c2,_,_,c3⟩:=e2.at om;exact⟨b,cap,e1,c2,fun j hj=>(c3 j hj).1,e3⟩
 obtain⟨bx,cx,rfl,hx1,hx2,hxc⟩:=hr.at om;have OJ:Hid (∀a1 a2 b1 b2,Wd a1->Wd a2->Wd b1->Wd b2->∀w',QB 52 #[aG a1 a2,aG b1 b2] w' (aG ((o.cMul (a1,a2) (b1,b2)).1) ((o.cMul (a1,a2) (b1,b2)).2))):=fun a1 a2 b1 b2 h1 h2 h3 h4 w'=>Dv H HI h1 h2 h3 h4 w';have HSu:Hid (∀a1 a2 b1 b2,Wd a1->Wd a2->Wd b1->Wd b2->∀w',QB 53 #[aG a1 a2,aG b1 b2] w' (aG (o.add a1 b1) (o.add a2 b2))):=fun a1 a2 b1 b2 h1 h2 h3 h4 w'=>aAb H h1 h2 h3 h4 w';have Uf:Hid (∀a1 a2 b1 b2,Wd a1->Wd a2->Wd b1->Wd b2->∀w',QB 54 #[aG a1 a2,aG b1 b2] w' (aG (o.sub a1 b1) (o.sub a2 b2))):=fun a1 a2 b1 b2 h1 h2 h3 h4 w'=>TW H h1 h2 h3 h4 w';have HM:Hid _:=hm;have HLm:Hid _:=hLm;have HEp:Hid _:=ep1;have hL2:L<=128:=om;have HCS:Hid _:=hcs;have HR2:Hid _:=hR;have aKE:R<=64:=om;clear hr hxc HE HT hSp IH hK hK1 hm hL hLm ep1 hcs hR;go_enter func16,ntmps16;go_upto_region 5 with(go_at_call 50;refine kw (HS _) ?_);go_upto_region 6 with(first
  |(go_at_call 51;refine(HE0 _ kg).mono ?_;rintro e w1 ⟨u1,rfl,hr1,ak⟩)
  |(go_at_call 16;refine(HT0 _ _ hr1).mono ?_;rintro e w2 ⟨ba,ca,rfl,hba,hca,aA⟩))
 go_upto_region 7 with(first
  |(go_at_call 51;refine(HE1 _ kg).mono ?_;rintro e w3 ⟨u3,rfl,hr3,aF⟩)
  |(go_at_call 16;refine(HT1 _ _ hr3).mono ?_;rintro e w4 ⟨bb,cb,rfl,hbb,hcb,aI⟩))
 go_upto_region 8 with(go_at_call 11;refine(HRt _).mono ?_;rintro e W ⟨br,cr,rfl,hbr,hcr,yj⟩);have gA:Gb w2 W:=(aF.trans aI).trans yj;have WM:Hid (∀q,q<m*2->aj W ba q (Y (flat (o.tr (k+1) (fun q=>cs (2*q+0))) q))):=fun q hq=>gA.old (hca q hq);have WL:Hid (∀q,q<m*2->aj W bb q (Y (flat (o.tr (k+1) (fun q=>cs (2*q+1))) q))):=fun q hq=>yj.old (hcb q hq);have HCR:Hid _:=hcr;have hgW:Gb w W:=kg;have aFh:ba<W.heap.size:=by have:=gA.size;omega
 have aKC:bb<W.heap.size:=by have:=yj.size;omega
 have V5:=hgW.size;clear hca hcb hcr ak aA aF aI yj gA HE0 HE1 HT0 HT1 HRt hr1 hr3 hba hbb;go_wp2;go_loopw [8,9] (fun f i wr=>∃j:Nat,j<=m/\i=J j/\Ow wr W.heap.size 59 2 O f (2*j) (flat (o.tr (k+2) cs))/\Gb W wr) (fun _ i _=>m-(intOf i).toNat)
 case atStart=>exact⟨0,Nat.zero_le _,rfl,Ow.lit W _ _ _ _,kg⟩
 case round=>
  obtain⟨j,hj,rfl,hof,hgb⟩:=hrel;have hsz:=hgb.size;by_cases hlt:j<m
  ·have hlt':(j:Int)<(m:Int):=om;obtain⟨J0,hJ0⟩:∃J0:Nat,J0=2*j:=⟨_,rfl⟩;have u0:IntKind.i64.wrap (2*(j:Int))=(J0:Int):=wi;have i0:(J0:Int)<(R:Int):=by have:=HR2.out;omega
   obtain⟨a1,ha1⟩:∃a1,(o.tr (k+1) (fun q=>cs (2*q+0)) j).1 =a1:=⟨_,rfl⟩;obtain⟨a2,ha2⟩:∃a2,(o.tr (k+1) (fun q=>cs (2*q+0)) j).2 =a2:=⟨_,rfl⟩;obtain⟨d1,hd1⟩:∃d1,(o.tr (k+1) (fun q=>cs (2*q+1)) j).1 =d1:=⟨_,rfl⟩;obtain⟨d2,hd2⟩:∃d2,(o.tr (k+1) (fun q=>cs (2*q+1)) j).2 =d2:=⟨_,rfl⟩;obtain⟨x,y,hxy⟩:∃x y,o.rt (k+2) (2*j)=(x,y):=⟨_,_,rfl⟩;have p0:wr.cell? ⟨ba,j*2,I⟩=D (Y a1):=by rw[<-ha1,<-dh,Nat.mul_comm];exact hgb.old (WM (2*j) om)
   have p1:wr.cell? ⟨ba,j*2+1,I⟩=D (Y a2):=by rw[<-ha2,<-dn,Nat.mul_comm];exact hgb.old (WM (2*j+1) om)
   have p2:wr.cell? ⟨bb,j*2,I⟩=D (Y d1):=by rw[<-hd1,<-dh,Nat.mul_comm];exact hgb.old (WL (2*j) om)
   have p3:wr.cell? ⟨bb,j*2+1,I⟩=D (Y d2):=by rw[<-hd2,<-dn,Nat.mul_comm];exact hgb.old (WL (2*j+1) om)
   have p4:aj wr br (J0*2) (Y x):=by have:=hgb.old (HCR (J0*2) (by have:=HR2.out;omega));rw[Nat.mul_comm,dh,hJ0,hxy]at this;rw[Nat.mul_comm,hJ0];exact this
   have p5:aj wr br (J0*2+1) (Y y):=by have:=hgb.old (HCR (J0*2+1) (by have:=HR2.out;omega));rw[Nat.mul_comm,dn,hJ0,hxy]at this;rw[Nat.mul_comm,hJ0];exact this
   have wE:=HI.tr (k+1) (fun q=>cs (2*q+0)) j (fun _=>HCS _);have wO:=HI.tr (k+1) (fun q=>cs (2*q+1)) j (fun _=>HCS _);unfold mY at wE wO;rw[ha1,ha2]at wE;rw[hd1,hd2]at wO;have wX:=HI.rt (k+2) (2*j);rw[hxy]at wX;obtain⟨t1,ht1⟩:∃t1,(o.cMul (x,y) (d1,d2)).1 =t1:=⟨_,rfl⟩;obtain⟨t2,ht2⟩:∃t2,(o.cMul (x,y) (d1,d2)).2 =t2:=⟨_,rfl⟩;have wT:=HI.cMul wX (show mY (d1,d2) from wO);unfold mY at wT;rw[ht1,ht2]at wT;have G1:=OJ x y d1 d2 wX.1 wX.2 wO.1 wO.2;rw[ht1,ht2]at G1;have G2:=HSu a1 a2 t1 t2 wE.1 wE.2 wT.1 wT.2;have G3:=Uf a1 a2 t1 t2 wE.1 wE.2 wT.1 wT.2;have eO:o.tr (k+1) (fun q=>cs (2*q+1)) j=(d1,d2):=by rw[<-hd1,<-hd2]
   have eT:o.cMul (x,y) (d1,d2)=(t1,t2):=by rw[<-ht1,<-ht2]
   have s0:o.tr (k+2) cs (2*j)=(o.add a1 t1,o.add a2 t2):=by
    simp only[Ops.tr];rw[if_pos om,show 2*j/2=j by omega,hxy,eO,eT];unfold Ops.cAdd;rw[<-ha1,<-ha2];rfl
   have s1:o.tr (k+2) cs (2*j+1)=(o.sub a1 t1,o.sub a2 t2):=by
    simp only[Ops.tr];rw[if_neg om,show(2*j+1)/2=j by omega,hxy,eO,eT];unfold Ops.cSub;rw[<-ha1,<-ha2];rfl
   generalize o.add a1 t1=v0 at*
   generalize o.add a2 t2=v1 at*
   generalize o.sub a1 t1=v2 at*
   generalize o.sub a2 t2=v3 at*
   have F1:Hid _:=G1;have F2:Hid _:=G2;have F3:Hid _:=G3;have e0:Hid (flat (o.tr (k+2) cs) (2*j*2+0)=v0):=by show _=_;rw[show 2*j*2+0=2*(2*j) by omega,dh,s0]
   have e1:Hid (flat (o.tr (k+2) cs) (2*j*2+1)=v1):=by show _=_;rw[show 2*j*2+1=2*(2*j)+1 by omega,dn,s0]
   have e2:Hid (flat (o.tr (k+2) cs) (2*j*2+2)=v2):=by show _=_;rw[show 2*j*2+2=2*(2*j+1) by omega,dh,s1]
   have e3:Hid (flat (o.tr (k+2) cs) (2*j*2+3)=v3):=by show _=_;rw[show 2*j*2+3=2*(2*j+1)+1 by omega,dn,s1]
   have HO:Hid _:=hof;have FV:=fun w' (hg:Gb wr w')=>Ow.gb hof hg;have hnb:=hof.nlt aFh;have hnw:=fun p (hp:wr.heap.size<=p)=>hof.ne hp;have Kv:Hid _:=FV;have HNb:Hid _:=hnb;have HNw:Hid _:=hnw;clear hof FV hnb hnw G1 G2 G3 eO eT s0 s1 ha1 ha2 hd1 hd2 hxy wE wO wX wT ht1 ht2 hJ0 OJ HSu Uf;go_wp2;go_cut [10] from 48 to 78 (fun s wx=>∃bt:Nat,s=.pointer (D ⟨bt,0,I⟩)/\aj wx bt 0 (Y t1)/\aj wx bt 1 (Y t2)/\wr.heap.size<=bt/\Gb wr wx)
   case first=>
    go_region_held3 (fun w'=>aj w' br (J0*2) (Y x)/\aj w' br (J0*2+1) (Y y)/\aj w' bb (j*2) (Y d1)/\aj w' bb (j*2+1) (Y d2))
     (exact kZ)
     (first
      |(go_at_call 52;with_reducible refine ku (F1.out _) fun w2 aA=>?_;have hz2:=aA.size;(try simp only[World.size_alloc,World.size_drew,World.size_setCell]at hz2);(try (have bx0:aj w2 wr.heap.size 0 (Y 0):=aA.old (by simp[go_sem]);have bx1:aj w2 wr.heap.size 1 (Y 0):=aA.old (by simp[go_sem]);have bz0:bK w2 wr.heap.size 0:=aA.AQ (v:=Y 0) (by simp[go_sem]) (nJ (gG (JC (Nat.le_refl _))));have bz1:bK w2 wr.heap.size 1:=aA.AQ (v:=Y 0) (by simp[go_sem]) (nJ (gG (JC (Nat.le_refl _))))))))
    all_goals (go_wp2;go_meet)
    all_goals exact⟨_,rfl,kb,kb,om,kg⟩
   case rest=>
    obtain⟨bt,rfl,c0,c1,hbt,hgt⟩:=hcut;have q0:aj wc ba (j*2) (Y a1):=hgt.old p0;have q1:aj wc ba (j*2+1) (Y a2):=hgt.old p1;have aI2:=au c0;have aIB:=hgt.size;clear p0 p1 p2 p3 p4 p5;go_wp2;go_region_held3 (fun w'=>aj w' ba (j*2) (Y a1)/\aj w' ba (j*2+1) (Y a2)/\aj w' bt 0 (Y t1)/\aj w' bt 1 (Y t2))
     (exact kZ)
     (first
      |(go_at_call 53;with_reducible refine ku (F2.out _) fun w3 aF=>?_;have hz3:=aF.size;(try simp only[World.size_alloc,World.size_drew,World.size_setCell]at hz3))
      |(go_at_call 54;with_reducible refine ku (F3.out _) fun w3 aF=>?_;have hz3:=aF.size;(try simp only[World.size_alloc,World.size_drew,World.size_setCell]at hz3))
      |(refine step_more rfl _ _ 22 rfl 59 (.agg #[Y 0,Y 0]) 2 16 O Tryz.underlying22 ES rfl de de W.heap.size (2*j) 2 (flat (o.tr (k+2) cs)) _ w3.heap.size rfl (Kv _ kg) rfl (TV (by simp[go_sem]) (by simp[go_sem]) (by simp[go_sem]) (by simp[go_sem]) e0.out e1.out e2.out e3.out) om om (by simp[go_sem];omega) ?_;intro v' w4 hown4 hb4 hk4 _;have r0:aj w4 ba (j*2) (Y a1):=hk4 _ _ _ kb HNb.out;have r1:aj w4 ba (j*2+1) (Y a2):=hk4 _ _ _ kb HNb.out;have r2:aj w4 bt 0 (Y t1):=hk4 _ _ _ kb (HNw _ hbt);have r3:aj w4 bt 1 (Y t2):=hk4 _ _ _ kb (HNw _ hbt)))
    all_goals
     exact aCS
  ·obtain rfl:j=m:=om;have uf:¬(j:Int)<(j:Int):=om;have HO:Hid _:=hof;have hgw:Gb w wr:=hgW.trans hgb;have eM:2^(k+1)=2*j:=HEp.out;have OD:=Ow.mono hof V5;clear hof;go_wp2;go_returns;exact⟨_,rfl,OD,hgw⟩
theorem Ld(H:o.S)(HI:o.In):∀k:Nat,1<=k->k<=6->FN o k
 |0,h,_=>absurd h om
 |1,_,_=>O4 o
 |k+2,_,h=>Le H HI k h (Ld H HI (k+1) om om)
theorem Kz{o:Oper}{K:Act->World->Prop}(s x:Operand)(ty:TypeId)
  (ho:o.op=.call {callee:=.builtin .append,args:=#[s,x],argTypes:=#[ty,ty]}) (t:TypeId) (z:Value) (size bytes:Nat) (k:IntKind) (hty:Tryz.prog.underlying ty=D (.slice t)) (oP:(Tryz.prog.info? t).map (fun i=>(i.zero,i.size,i.bytes))=D (D z,size,bytes)) (hzs:z.cells.size=size) (hs0:0<size) (hby:bytes<=1000)
  (base n r:Nat) (g:Nat->Int) (v:Value) (b:Nat) (hs:a.eval s=v) (hown:Ow w base t size k v n g) (hx:a.eval x=aB b r r)
  (hc:∀j,j<r*size->aj w b j (.int k (g (n*size+j)))) (hr0:0<r) (hn:n+r<=100000000) (hbase:base<=w.heap.size)
  (h:∀v' w',Ow w' base t size k v' (n+r) g->Below base w w'->(∀p,p<w.heap.size->v.ownBlock≠D p->w'.heap[p]?=w.heap[p]?)->(v'.ownBlock=v.ownBlock\/v'.ownBlock=D w.heap.size)->K (a.put o.dst v') w'):o.wp Tryz.prog a w K Q:=by
 obtain⟨i0,hi,hz0,hz1,hz2⟩:=info_parts oP;refine wp_append_lies _ s x ty ho base t i0 z size bytes hty hi hz0 hz1 hz2 hzs hs0 v n (uv k (n*size) g) hs hown ⟨b,0,I⟩ r r (uv k (r*size) (fun j=>g (n*size+j))) hx (lF _ _ _) ?_ ?_ hr0 (by unfold maxLen;omega) (by have:=Nat.mul_le_mul hn hby;omega) hbase w.heap.size rfl ?_
 ·intro j u hj;have hlt:j<r*size:=by
   rcases Nat.lt_or_ge j (r*size)with c|c
   ·exact c
   ·rw[List.getElem?_eq_none (by rw[lF];exact c)]at hj;cases hj
  rw[DJ _ _ _ _ hlt]at hj;obtain rfl:=Option.some.inj hj;have e:(⟨b,0,I⟩:Addr).add j=⟨b,j,I⟩:=by unfold Addr.add;split<;>simp_all
  rw[e];exact hc j hlt
 ·intro u hu;obtain⟨j,_,rfl⟩:=List.mem_map.1 hu;rfl
 ·intro gb cap' w' hown' hgrow hat _;refine h _ w' ?_ ?_ ?_ ?_
  ·show World.ownsRow _ _ _ _ _ _ _;rw[Nat.add_mul,Xf];exact hown'
  ·refine(Below.refl base w).grown hgrow hbase ?_;intro q hq;exact(World.ownsRow.lt hown q hq).1
  ·exact fun p hp hne=>hgrow.block p hp (fun e=>hne e.symm)
  ·rcases hat with e|e
   ·exact .inl (by rw[e];rfl)
   ·exact .inr (by rw[e];rfl)
theorem DX{o:Oper}{K:Act->World->Prop}{E:Prop}(hgd:o.guard=I)(s x:Operand)(ty:TypeId)
  (ho:o.op=.call {callee:=.builtin .append,args:=#[s,x],argTypes:=#[ty,ty]}) (t:TypeId) (z:Value) (size bytes:Nat) (k:IntKind) (hty:Tryz.prog.underlying ty=D (.slice t)) (oP:(Tryz.prog.info? t).map (fun i=>(i.zero,i.size,i.bytes))=D (D z,size,bytes)) (hzs:z.cells.size=size) (hs0:0<size) (hby:bytes<=1000)
  (base n r:Nat) (g:Nat->Int) (v:Value) (b:Nat) (hs:a.eval s=v) (hown:Ow w base t size k v n g) (hx:a.eval x=aB b r r)
  (hc:∀j,j<r*size->aj w b j (.int k (g (n*size+j)))) (hr0:0<r) (hn:n+r<=100000000) (hbase:base<=w.heap.size)
  (h:∀v' w',Ow w' base t size k v' (n+r) g->Below base w w'->(∀p,p<w.heap.size->v.ownBlock≠D p->w'.heap[p]?=w.heap[p]?)->(v'.ownBlock=v.ownBlock\/v'.ownBlock=D w.heap.size)->K (a.put o.dst v') w'):if Region.wanted o (yielded ops a.tmps)=true then Oper.wp Tryz.prog o a w K Q else E:=by
 have hw:Region.wanted o (yielded ops a.tmps)=true:=by simp[Region.wanted,hgd]
 rw[if_pos hw];exact Kz s x ty ho t z size bytes k hty oP hzs hs0 hby base n r g v b hs hown hx hc hr0 hn hbase h
theorem fK(hk:∀p,p<w.heap.size->v.ownBlock≠D p->w'.heap[p]?=w.heap[p]?)(hu:aj w p off u)(hne:v.ownBlock≠D p):aj w' p off u:=(World.cell?_of_block (w:=w) (a:=⟨p,off,I⟩) (hk p (au hu) hne)).trans hu
theorem Ow.Zh(hk:∀p,p<w.heap.size->v.ownBlock≠D p->w'.heap[p]?=w.heap[p]?)(ho:Ow w base t size k u n g)(hne:∀p,u.ownBlock=D p->v.ownBlock≠D p):Ow w' base t size k u n g:=by
 refine⟨ho.1,?_⟩;rcases ho.2 with hn|⟨b,cap,cur,rfl,hb,hh,rest⟩
 ·exact .inl hn
 ·refine .inr ⟨b,cap,cur,rfl,hb,?_,rest⟩;rw[hk b (Array.getElem?_eq_some_iff.1 hh).1 (hne b rfl)];exact hh
theorem Ow.aBC(h:Ow w base t size k v n g)(hp:p<base):v.ownBlock≠D p:=fun e=>by
 have:=(World.ownsRow.lt h p e).1;omega
theorem Ow.aIy(w:World)(ob:Obj)(t:TypeId)(size:Nat)(k:IntKind)(g:Nat->Int):Ow ((w.alloc ob).alloc (.cells #[] t)) w.heap.size t size k (aB (w.heap.size+1) 0 0) 0 g:=by
 have:=Ow.lit (w.alloc ob) t size k g;rw[World.size_alloc]at this;exact this.mono om
theorem Dw(r s:Nat)(hrs:r*s=2)(h0:aj w b 0 (.int k x0))(h1:aj w b 1 (.int k x1))(e0:g (m+0)=x0)(e1:g (m+1)=x1):∀j,j<r*s->aj w b j (.int k (g (m+j))):=by
 intro j hj;rw[hrs]at hj
 match j,hj with
 |0,_=>rw[e0];exact h0
 |1,_=>rw[e1];exact h1
def OE(o:Ops)(k:Nat):Prop:=∀(K:Int) (w:World) (v:Value) (zs:Nat->Int × Int),K=(k:Int)->Rd w O v (2^(k-1)) (2^(k-1)*2) (flat zs)->(∀j,mY (zs j))->
 CT 25 #[J K,v] w fun e w'=>∃v',e=U v'/\Ow w' w.heap.size 33 1 O v' (2^k) (o.bk k zs)/\Gb w w'
theorem Wp(o:Ops):OE o 1:=by
 intro K w v zs hK hr hcs;obtain rfl:K=1:=hK;have HS:KW 50 #[J 1] (J 2):=fun w=>qc 1 1 rfl om 2 rfl w;obtain⟨b,cap,rfl,h1,h2,hc⟩:=hr.at de;have c0:aj w b 0 (Y (zs 0).1):=hc 0 de;have c1:aj w b 1 (Y (zs 0).2):=hc 1 de;have e0:o.bk 1 zs 0=(zs 0).1 :=rfl;have e1:o.bk 1 zs 1=(zs 0).2 :=rfl;generalize o.bk 1 zs=f at*
 generalize(zs 0).1 =x at*
 generalize(zs 0).2 =y at*
 clear hr hc hcs;go_enter func25,ntmps25;go_wp2_with (go_at_call 50;refine kw (HS _) ?_);go_region;all_goals go_wp2
 all_goals go_returns
 all_goals
  refine⟨_,rfl,?_,kg⟩;have:=World.ownsRow_lit (base:=w.heap.size) (e:=33) (size:=1) w.drew #[Y x,Y y] 2 (Nat.le_refl _) de rfl;exact aCR
theorem RJ(H:o.S)(HI:o.In)(k:Nat)(hk6:k+2<=6)(IH:OE o (k+1)):OE o (k+2):=by
 intro K w v zs hK hr hcs;unfold OE at IH;obtain⟨K1,hK1⟩:∃K1:Int,K1=((k+1:Nat):Int):=⟨_,rfl⟩;have uK:IntKind.i64.wrap (K-1)=K1:=wi;have k1:¬K<1:=om;have k2:¬(6:Int)<K:=om;have k3:(K==1)=false:=by simp;omega
 obtain⟨m,hm⟩:∃m,m=2^k:=⟨_,rfl⟩;have hm1:0<m:=by rw[hm];exact Nat.pow_pos de
 have hm2:m<=16:=by
  rw[hm];have:=Nat.pow_le_pow_right (show 0<2 by decide) (show k<=4 by omega);omega
 obtain⟨L,hL⟩:∃L,L=2^(k+1):=⟨_,rfl⟩;obtain⟨Z,hZ⟩:∃Z,Z=2^(k+2):=⟨_,rfl⟩;have hLm:L=2*m:=by rw[hL,Nat.pow_succ,<-hm];omega
 have hZL:Z=2*L:=by rw[hZ,Nat.pow_succ,<-hL];omega
 rw[show k+2-1=k+1 by omega,<-hL]at hr;have HS:KW 50 #[J K] (J (Z:Int)):=fun w=>qc K (k+2) hK om Z (by rw[hZ]) w;have uZ:IntKind.i64.wrap ((L:Int)*2)=(Z:Int):=wi;have HRt:Hid (∀w',CT 11 #[J K] w' fun e w''=>∃b cap,e=U (aB b L cap)/\w'.heap.size<=b/\b<w''.heap.size/\(∀q,q<L*2->aj w'' b q (Y (flat (o.rt (k+2)) q)))/\Gb w' w''):=fun w'=>by
  rw[hK];refine(I7 H HI (k+2) om hk6 w').mono fun e w'' ⟨u,e1,e2,e3⟩=>?_;rw[show k+2-1=k+1 by omega,<-hL]at e2;obtain⟨b,cap,rfl,c1,c2,_,_,c3⟩:=e2.at om;exact⟨b,cap,e1,c1,c2,fun j hj=>(c3 j hj).1,e3⟩
 have HB:Hid (∀w' u (ys:Nat->Int × Int),(∀j,mY (ys j))->Rd w' O u m (m*2) (flat ys)->CT 25 #[J K1,u] w' fun e w''=>∃b cap,e=U (aB b L cap)/\b<w''.heap.size/\(∀q,q<L->aj w'' b q (Y (o.bk (k+1) ys q)))/\Gb w' w''):=fun w' u ys hys hu=>(IH K1 w' u ys hK1 (by rw[show k+1-1=k by omega,<-hm];exact hu) hys).mono fun e w'' ⟨v',e1,e2,e3⟩=>by
  rw[<-hL]at e2;obtain⟨b,cap,rfl,_,c2,_,_,c3⟩:=e2.at om;exact⟨b,cap,e1,c2,fun j hj=>(c3 j om).1,e3⟩
 have wA:Hid _:=HI.yx hcs;have wB:Hid _:=HI.zK (k+2) hcs;have OJ:Hid (∀a1 a2 b1 b2,Wd a1->Wd a2->Wd b1->Wd b2->∀w',QB 52 #[aG a1 a2,aG b1 b2] w' (aG ((o.cMul (a1,a2) (b1,b2)).1) ((o.cMul (a1,a2) (b1,b2)).2))):=fun a1 a2 b1 b2 h1 h2 h3 h4 w'=>Dv H HI h1 h2 h3 h4 w';have HSu:Hid (∀a1 a2 b1 b2,Wd a1->Wd a2->Wd b1->Wd b2->∀w',QB 53 #[aG a1 a2,aG b1 b2] w' (aG ((o.cAdd (a1,a2) (b1,b2)).1) ((o.cAdd (a1,a2) (b1,b2)).2))):=fun a1 a2 b1 b2 h1 h2 h3 h4 w'=>aAb H h1 h2 h3 h4 w';have Uf:Hid (∀a1 a2 b1 b2,Wd a1->Wd a2->Wd b1->Wd b2->∀w',QB 54 #[aG a1 a2,aG b1 b2] w' (aG ((o.cSub (a1,a2) (b1,b2)).1) ((o.cSub (a1,a2) (b1,b2)).2))):=fun a1 a2 b1 b2 h1 h2 h3 h4 w'=>TW H h1 h2 h3 h4 w';have HHa:Hid (∀a1 a2,Wd a1->Wd a2->∀w',QB 71 #[aG a1 a2] w' (aG ((o.lC (a1,a2)).1) ((o.lC (a1,a2)).2))):=fun a1 a2 h1 h2 w'=>aCf H HI h1 h2 w';obtain⟨bx,cx,rfl,hx1,hx2,hxc⟩:=hr.at om;have hbx:=au (hxc 0 om);have HX:Hid _:=hxc;have HM:Hid _:=hm;have HLm:Hid _:=hLm;have HZL:Hid _:=hZL;have WB:Hid _:=hZ;have hL2:L<=32:=om;have hZ2:Z<=64:=om;have HCS:Hid _:=hcs;clear hr hxc IH hK hK1 hm hL hLm hZL hZ hcs;go_enter func25,ntmps25;go_upto_region 5 with(go_at_call 50;refine kw (HS _) ?_);go_upto_region 8 with(go_at_call 11;refine(HRt _).mono ?_;rintro e W ⟨br,cr,rfl,aI3,hbr,hcr,yj⟩);have V5:=yj.size;simp only[World.size_alloc]at V5 aI3;go_wp2;go_loopw [5,6,8] (fun fa fb i wr=>∃j:Nat,j<=m/\i=J j/\Ow wr w.heap.size 59 2 O fa j (flat (o.yx zs))/\Ow wr w.heap.size 59 2 O fb j (flat (o.zK (k+2) zs))/\(∀p,fa.ownBlock=D p->fb.ownBlock≠D p)/\fa.ownBlock≠D br/\fb.ownBlock≠D br/\br<wr.heap.size/\Hid (∀q,q<L*2->aj wr br q (Y (flat (o.rt (k+2)) q)))/\Gb w wr) (fun _ _ i _=>m-(intOf i).toNat)
 case atStart=>
  refine⟨0,Nat.zero_le _,rfl,Ow.gb (Ow.alloc (Ow.lit w _ _ _ _) _) yj,Ow.gb (Ow.aIy w _ _ _ _ _) yj,?_,?_,?_,hbr,hcr,kg⟩
  ·intro p h1 h2;simp only[Value.ownBlock,Option.some.injEq,World.size_alloc]at h1 h2;omega
  ·simp only[Value.ownBlock,ne_eq,Option.some.injEq];omega
  ·simp only[Value.ownBlock,ne_eq,Option.some.injEq,World.size_alloc];omega
 case round=>
  obtain⟨j,hj,rfl,hoa,hob,hab,har,aFe,aKB,HCR,hgb⟩:=hrel;have aGB:=hgb.size;obtain⟨J0,hJ0⟩:∃J0:Nat,J0=2*j:=⟨_,rfl⟩;have uA:IntKind.i64.wrap ((j:Int)*2)=(J0:Int):=wi;have uB:IntKind.i64.wrap (2*(j:Int))=(J0:Int):=wi;by_cases hlt:j<m
  ·obtain⟨J1,hJ1⟩:∃J1:Nat,J1=2*j+1:=⟨_,rfl⟩;have uC:IntKind.i64.wrap ((J0:Int)+1)=(J1:Int):=wi;have hLm:=HLm.out;have i0:(J0:Int)<(L:Int):=om;have i1:(J1:Int)<(L:Int):=om;obtain⟨x1,x2,hx⟩:∃x1 x2,zs (2*j)=(x1,x2):=⟨_,_,rfl⟩;obtain⟨y1,y2,hy⟩:∃y1 y2,zs (2*j+1)=(y1,y2):=⟨_,_,rfl⟩;obtain⟨r,s,hrs⟩:∃r s,o.rt (k+2) (2*j)=(r,s):=⟨_,_,rfl⟩;have p0:aj wr bx (J0*2) (Y x1):=by have:=hgb.old (HX (2*(2*j)) om);rw[dh,hx]at this;rw[hJ0,Nat.mul_comm];exact this
   have p1:aj wr bx (J0*2+1) (Y x2):=by have:=hgb.old (HX (2*(2*j)+1) om);rw[dn,hx]at this;rw[hJ0,Nat.mul_comm];exact this
   have p2:aj wr bx (J1*2) (Y y1):=by have:=hgb.old (HX (2*(2*j+1)) om);rw[dh,hy]at this;rw[hJ1,Nat.mul_comm];exact this
   have p3:aj wr bx (J1*2+1) (Y y2):=by have:=hgb.old (HX (2*(2*j+1)+1) om);rw[dn,hy]at this;rw[hJ1,Nat.mul_comm];exact this
   have p4:aj wr br (J0*2) (Y r):=by have:=HCR (2*(2*j)) (by omega);rw[dh,hrs]at this;rw[hJ0,Nat.mul_comm];exact this
   have p5:aj wr br (J0*2+1) (Y s):=by have:=HCR (2*(2*j)+1) (by omega);rw[dn,hrs]at this;rw[hJ0,Nat.mul_comm];exact this
   have wX:=HCS (2*j);have wY:=HCS (2*j+1);have wR:=HI.rt (k+2) (2*j);rw[hx]at wX;rw[hy]at wY;rw[hrs]at wR;have G0:KB 46 #[Y s] (Y (nO s)):=fun w'=>Lc wR.2 w';obtain⟨a,ha⟩:∃a,o.cAdd (x1,x2) (y1,y2)=a:=⟨_,rfl⟩;obtain⟨d,hd⟩:∃d,o.cSub (x1,x2) (y1,y2)=d:=⟨_,rfl⟩;obtain⟨e,he⟩:∃e,o.cMul d (r,nO s)=e:=⟨_,rfl⟩;have wa:=HI.cAdd (show mY (x1,x2) from wX) (show mY (y1,y2) from wY);have wd:=HI.cSub (show mY (x1,x2) from wX) (show mY (y1,y2) from wY);rw[ha]at wa;rw[hd]at wd;have we:=HI.cMul wd (show mY (r,nO s) from ⟨wR.1,xW wR.2⟩);rw[he]at we;have G1:=HSu x1 x2 y1 y2 wX.1 wX.2 wY.1 wY.2;rw[ha]at G1;have G2:=HHa a.1 a.2 wa.1 wa.2;have G3:=Uf x1 x2 y1 y2 wX.1 wX.2 wY.1 wY.2;rw[hd]at G3;have G4:=OJ d.1 d.2 r (nO s) wd.1 wd.2 wR.1 (xW wR.2);rw[show(d.1,d.2)=d from rfl,he]at G4;have G5:=HHa e.1 e.2 we.1 we.2;have sA:o.yx zs j=o.lC (a.1,a.2):=by unfold Ops.yx;rw[hx,hy,ha]
   have sB:o.zK (k+2) zs j=o.lC (e.1,e.2):=by
    show o.lC (o.cMul (o.cSub (zs (2*j)) (zs (2*j+1))) (xI (o.rt (k+2) (2*j))))=_;rw[hx,hy,hrs,hd];show o.lC (o.cMul d (r,nO s))=_;rw[he]
   obtain⟨f1,f2,hf⟩:∃f1 f2,o.lC (a.1,a.2)=(f1,f2):=⟨_,_,rfl⟩;obtain⟨g1,g2,hg⟩:∃g1 g2,o.lC (e.1,e.2)=(g1,g2):=⟨_,_,rfl⟩;rw[hf]at G2 sA;rw[hg]at G5 sB;obtain⟨a1,a2⟩:=a;obtain⟨d1,d2⟩:=d;obtain⟨e1,e2⟩:=e;dsimp only at G1 G2 G3 G4 G5;have q0:Hid (flat (o.yx zs) (j*2+0)=f1):=by show _=_;rw[show j*2+0=2*j by omega,dh,sA]
   have q1:Hid (flat (o.yx zs) (j*2+1)=f2):=by show _=_;rw[show j*2+1=2*j+1 by omega,dn,sA]
   have q2:Hid (flat (o.zK (k+2) zs) (j*2+0)=g1):=by show _=_;rw[show j*2+0=2*j by omega,dh,sB]
   have q3:Hid (flat (o.zK (k+2) zs) (j*2+1)=g2):=by show _=_;rw[show j*2+1=2*j+1 by omega,dn,sB]
   generalize nO s=s' at*
   have F1:Hid _:=G1;have F2:Hid _:=G2;have F3:Hid _:=G3;have F4:Hid _:=G4;have F5:Hid _:=G5;have HOA:Hid (∀w',Gb wr w'->Ow w' w.heap.size 59 2 O _ j (flat (o.yx zs))):=fun w' hg=>hoa.gb hg;have HOB:Hid (∀w',Gb wr w'->Ow w' w.heap.size 59 2 O _ j (flat (o.zK (k+2) zs))):=fun w' hg=>hob.gb hg;have HAx:Hid _:=hoa.aBC hbx;have HBx:Hid _:=hob.aBC hbx;have HAw:Hid _:=fun p (hp:wr.heap.size<=p)=>hoa.ne hp;have HBw:Hid _:=fun p (hp:wr.heap.size<=p)=>hob.ne hp;have HAB:Hid _:=hab;have HAr:Hid _:=har;have HJ0:Hid _:=hJ0;have HBr:Hid _:=aFe;clear hoa hob hab har aFe G1 G2 G3 G4 G5 sA sB hf hg ha hd he wa wd we wX wY wR hx hy hrs hJ0 hJ1 hLm OJ HSu Uf HHa;go_wp2;go_cut [9] from 44 to 98 (fun s9 wx=>∃bt:Nat,s9=.pointer (D ⟨bt,0,I⟩)/\aj wx bt 0 (Y r)/\aj wx bt 1 (Y s')/\wr.heap.size<=bt/\Gb wr wx)
   case first=>
    go_region_held3 (fun w'=>aj w' br (J0*2) (Y r)/\aj w' br (J0*2+1) (Y s))
     (exact kZ)
     (first
      |(go_at_call 46;with_reducible refine ku (G0.out _) fun w2 aA=>?_;have hz2:=aA.size;(try simp only[World.size_alloc,World.size_drew,World.size_setCell]at hz2);(try (have bx0:aj w2 wr.heap.size 0 (Y 0):=aA.old (by simp[go_sem]);have bx1:aj w2 wr.heap.size 1 (Y 0):=aA.old (by simp[go_sem]);have bz0:bK w2 wr.heap.size 0:=aA.AQ (v:=Y 0) (by simp[go_sem]) (nJ (gG (JC (Nat.le_refl _))));have bz1:bK w2 wr.heap.size 1:=aA.AQ (v:=Y 0) (by simp[go_sem]) (nJ (gG (JC (Nat.le_refl _))))))))
    all_goals (go_wp2;go_meet)
    all_goals exact⟨_,rfl,kb,kb,om,kg⟩
   case rest=>
    obtain⟨bt,rfl,c0,c1,hbt,hgt⟩:=hcut;have n0:aj wc bx (J0*2) (Y x1):=hgt.old p0;have n1:aj wc bx (J0*2+1) (Y x2):=hgt.old p1;have n2:aj wc bx (J1*2) (Y y1):=hgt.old p2;have n3:aj wc bx (J1*2+1) (Y y2):=hgt.old p3;have aI2:=au c0;have aIB:=hgt.size;clear p0 p1 p2 p3 p4 p5;go_wp2;go_region_held3 (fun w'=>aj w' bx (J0*2) (Y x1)/\aj w' bx (J0*2+1) (Y x2)/\aj w' bx (J1*2) (Y y1)/\aj w' bx (J1*2+1) (Y y2)/\aj w' bt 0 (Y r)/\aj w' bt 1 (Y s'))
     (exact kZ)
     (first
      |(go_at_call 53;with_reducible refine ku (F1.out _) fun w2 aA=>?_;have hz2:=aA.size;(try simp only[World.size_alloc,World.size_drew,World.size_setCell]at hz2))
      |(go_at_call 71;with_reducible refine ku (F2.out _) fun w3 aF=>?_;have hz3:=aF.size;(try simp only[World.size_alloc,World.size_drew,World.size_setCell]at hz3))
      |(refine DX rfl _ _ 22 rfl 59 (.agg #[Y 0,Y 0]) 2 16 O Tryz.underlying22 ES rfl de de w.heap.size j 1 (flat (o.yx zs)) _ w3.heap.size rfl (HOA _ kg) rfl (Dw 1 2 rfl (by simp[go_sem]) (by simp[go_sem]) q0.out q1.out) om om (by simp[go_sem];omega) ?_;intro v4 w4 hown4 hb4 hk4 aBU;have r0:aj w4 bx (J0*2) (Y x1):=fK hk4 kb HAx.out;have r1:aj w4 bx (J0*2+1) (Y x2):=fK hk4 kb HAx.out;have r2:aj w4 bx (J1*2) (Y y1):=fK hk4 kb HAx.out;have r3:aj w4 bx (J1*2+1) (Y y2):=fK hk4 kb HAx.out;have r4:aj w4 bt 0 (Y r):=fK hk4 kb (HAw _ hbt);have r5:aj w4 bt 1 (Y s'):=fK hk4 kb (HAw _ hbt)))
    all_goals
     have gq:Gb wr (w3.alloc (.cells #[Y f1,Y f2] 59)):=kg;have hsq:=gq.size;have hs4:=hb4.size;simp only[World.size_alloc]at hsq hs4 aBU;have aD0:=Ow.Zh hk4 (HOB _ gq) (fun p hb ha=>HAB p ha hb);have aIY:Gb w w4:=Gb.below (hgb.trans gq) hb4 (Nat.le_refl _);have HC4:Hid (∀q,q<L*2->aj w4 br q (Y (flat (o.rt (k+2)) q))):=fun q hq=>fK hk4 (gq.old (HCR q hq)) HAr.out;have aHF:Hid (∀p,v4.ownBlock=D p->u6.ownBlock≠D p):=fun p h4=>by
      rcases aBU with e|e
      ·rw[e]at h4;exact HAB p h4
      ·rw[e]at h4;injection h4 with h4;exact HBw p om
     have aJA:Hid (v4.ownBlock≠D br):=by
      rcases aBU with e|e
      ·show _≠_;rw[e];exact HAr.out
      ·show _≠_;rw[e];intro h;injection h with h;omega
     have HO4:Hid (∀w',Gb w4 w'->Ow w' w.heap.size 59 2 O v4 (j+1) (flat (o.yx zs))):=fun w' hg=>hown4.gb hg;have HL4:Hid (∀p,v4.ownBlock=D p->p<w4.heap.size):=fun p h=>(World.ownsRow.lt hown4 p h).2;have aJx:Hid (∀w',Gb w4 w'->Ow w' w.heap.size 59 2 O u6 j (flat (o.zK (k+2) zs))):=fun w' hg=>aD0.gb hg;have aKm:wr.heap.size<=w4.heap.size:=om;clear hk4 aBU hown4 aD0 hb4 gq aA aF hz2 hz3
     (try go_split_ands)
     go_wp2;go_region_held3 (fun w'=>aj w' bx (J0*2) (Y x1)/\aj w' bx (J0*2+1) (Y x2)/\aj w' bx (J1*2) (Y y1)/\aj w' bx (J1*2+1) (Y y2)/\aj w' bt 0 (Y r)/\aj w' bt 1 (Y s'))
      (exact kZ)
      (first
       |(go_at_call 54;with_reducible refine ku (F3.out _) fun w5 aT=>?_;have Q_:=aT.size;(try simp only[World.size_alloc,World.size_drew,World.size_setCell]at Q_))
       |(go_at_call 52;with_reducible refine ku (F4.out _) fun w6 b_=>?_;have hz6:=b_.size;(try simp only[World.size_alloc,World.size_drew,World.size_setCell]at hz6))
       |(go_at_call 71;with_reducible refine ku (F5.out _) fun w7 fQ=>?_;have hz7:=fQ.size;(try simp only[World.size_alloc,World.size_drew,World.size_setCell]at hz7))
       |(refine DX rfl _ _ 22 rfl 59 (.agg #[Y 0,Y 0]) 2 16 O Tryz.underlying22 ES rfl de de w.heap.size j 1 (flat (o.zK (k+2) zs)) _ w7.heap.size rfl (aJx _ kg) rfl (Dw 1 2 rfl (by simp[go_sem]) (by simp[go_sem]) q2.out q3.out) om om (by simp[go_sem];omega) ?_;intro v8 w8 aGG hb8 hk8 aFg;have r0:aj w8 bx (J0*2) (Y x1):=fK hk8 kb HBx.out;have r1:aj w8 bx (J0*2+1) (Y x2):=fK hk8 kb HBx.out;have r2:aj w8 bx (J1*2) (Y y1):=fK hk8 kb HBx.out;have r3:aj w8 bx (J1*2+1) (Y y2):=fK hk8 kb HBx.out;have r4:aj w8 bt 0 (Y r):=fK hk8 kb (HBw _ hbt);have r5:aj w8 bt 1 (Y s'):=fK hk8 kb (HBw _ hbt)))
     all_goals
      have gq8:Gb w4 (w7.alloc (.cells #[Y g1,Y g2] 59)):=kg;have aIE:=gq8.size;have hs8:=hb8.size;simp only[World.size_alloc]at aIE hs8 aFg;have aIO:=Ow.Zh hk8 (HO4 _ gq8) aHF.out;have aIX:Gb w w8:=Gb.below (aIY.trans gq8) hb8 (Nat.le_refl _);have HC8:Hid (∀q,q<L*2->aj w8 br q (Y (flat (o.rt (k+2)) q))):=fun q hq=>fK hk8 (gq8.old (HC4 q hq)) HBr.out;have hd8:∀p,v4.ownBlock=D p->v8.ownBlock≠D p:=fun p h4=>by
       rcases aFg with e|e
       ·rw[e];exact aHF p h4
       ·rw[e];intro h;injection h with h;have:=HL4 p h4;omega
      have aI7:v8.ownBlock≠D br:=by
       rcases aFg with e|e
       ·rw[e];exact HBr.out
       ·rw[e];intro h;injection h with h;omega
      go_wp2;go_roundw
      case rel=>exact⟨j+1,om,by go_num,aIO,aGG,hd8,aJA.out,aI7,om,HC8.out,aIX⟩
      case measure=>simp[intOf]<;>omega
  ·obtain rfl:j=m:=om;have iL:¬(J0:Int)<(L:Int):=by have:=HLm.out;omega
   have hra:=hoa.rd;have hrb:=hob.rd;clear hoa hob hab har aFe hJ0 OJ HSu Uf HHa HCR
   rename World=>X
   go_upto_region 15 with(go_at_call 25;refine(HB _ _ (o.yx zs) wA.out hra).mono ?_;rintro e w2 ⟨ba,ca,rfl,hba,hca,aA⟩);go_upto_region 16 with(go_at_call 25;refine(HB _ _ (o.zK (k+2) zs) wB.out (hrb.gb aA)).mono ?_;rintro e w3 ⟨bb,cb,rfl,hbb,hcb,aF⟩);have WM:Hid (∀q,q<L->aj w3 ba q (Y (o.bk (k+1) (o.yx zs) q))):=fun q hq=>aF.old (hca q hq);have WL:Hid _:=hcb;have hgX:Gb w w3:=(hgb.trans aA).trans aF;have aIC:=hgX.size;have hs3:=aF.size;clear hca hcb hra hrb hgb aA aF HB;go_wp2;go_loopw [12,13] (fun f i wr=>∃i':Nat,i'<=L/\i=J i'/\Ow wr w3.heap.size 33 1 O f (2*i') (o.bk (k+2) zs)/\Gb w3 wr) (fun _ i _=>L-(intOf i).toNat)
   case atStart=>exact⟨0,Nat.zero_le _,rfl,Ow.lit w3 _ _ _ _,kg⟩
   case round=>
    obtain⟨i,hi,rfl,hof,hgr⟩:=hrel;have hsr:=hgr.size;by_cases hlt:i<L
    ·have hlt':(i:Int)<(L:Int):=om;obtain⟨x,hx⟩:∃x,o.bk (k+1) (o.yx zs) i=x:=⟨_,rfl⟩;obtain⟨y,hy⟩:∃y,o.bk (k+1) (o.zK (k+2) zs) i=y:=⟨_,rfl⟩;have p0:wr.cell? ⟨ba,i,I⟩=D (Y x):=by rw[<-hx];exact hgr.old (WM i hlt)
     have p1:wr.cell? ⟨bb,i,I⟩=D (Y y):=by rw[<-hy];exact hgr.old (WL i hlt)
     have e0:Hid (o.bk (k+2) zs (2*i*1+0)=x):=by show _=_;rw[show 2*i*1+0=2*i by omega];simp only[Ops.bk];rw[if_pos om,show 2*i/2=i by omega,hx]
     have e1:Hid (o.bk (k+2) zs (2*i*1+1)=y):=by show _=_;rw[show 2*i*1+1=2*i+1 by omega];simp only[Ops.bk];rw[if_neg om,show(2*i+1)/2=i by omega,hy]
     have Kv:Hid _:=fun w' (hg:Gb wr w')=>Ow.gb hof hg;have HNa:Hid _:=hof.aBC (show ba<w3.heap.size by omega);have HNb:Hid _:=hof.aBC hbb;clear hof hx hy;go_wp2;go_region_held3 (fun w'=>aj w' ba i (Y x)/\aj w' bb i (Y y))
      (exact kZ)
      (first
       |(refine step_more rfl _ _ 27 rfl 33 (Y 0) 1 8 O Tryz.underlying27 ER rfl de de w3.heap.size (2*i) 2 (o.bk (k+2) zs) _ wr.heap.size rfl (Kv _ kg) rfl (Dw (g:=o.bk (k+2) zs) (m:=2*i*1) 2 1 rfl (by simp[go_sem]) (by simp[go_sem]) e0.out e1.out) om om (by simp[go_sem];omega) ?_;intro v4 w4 hown4 hb4 hk4 _;have r0:aj w4 ba i (Y x):=hk4 _ _ _ kb HNa.out;have r1:aj w4 bb i (Y y):=hk4 _ _ _ kb HNb.out))
     all_goals
      go_wp2;go_roundw
      case rel=>exact⟨i+1,om,by go_num,hown4,Gb.below kg hb4 (Nat.le_refl _)⟩
      case measure=>simp[intOf]<;>omega
    ·obtain rfl:i=L:=om;have uf:¬(i:Int)<(i:Int):=om;have hgw:Gb w wr:=hgX.trans hgr;have eZ:2^(k+2)=2*i:=by have:=WB.out;have:=HZL.out;omega
     have hfin:=Ow.mono hof aIC;clear hof;go_wp2;go_returns;exact⟨_,rfl,hfin,hgw⟩
theorem T_(H:o.S)(HI:o.In):∀k:Nat,1<=k->k<=6->OE o k
 |0,h,_=>absurd h om
 |1,_,_=>Wp o
 |k+2,_,h=>RJ H HI k h (T_ H HI (k+1) om om)
theorem aCT{P:Prop}(h:P:=by
 generalize f j=x at*
 have x0:¬x< -2047:=by have:=hb.1;omega
 have x1:¬2047<x:=by have:=hb.2;omega
 clear hb;go_wp2;go_roundw
 case rel=>exact⟨j+1,om,by go_num,trivial⟩
 case measure=>simp[intOf]<;>omega):P:=h
def lg(w:World)(v:Value)(n:Nat)(g:Nat->Int):Prop:=
 ∃a cap,v=.slice a n cap/\n<=cap/\cap<=maxLen/\(0<n->∃b o,a=D ⟨b,o,I⟩/\∀j,j<n->aj w b (o+j) (J (g j)))
theorem lg.gb(h:lg w v n g)(hg:Gb w w'):lg w' v n g:=by
 obtain⟨a,cap,h1,h2,h3,h4⟩:=h;refine⟨a,cap,h1,h2,h3,fun hn=>?_⟩;obtain⟨b,o,hb,hc⟩:=h4 hn;exact⟨b,o,hb,fun j hj=>hg.old (hc j hj)⟩
theorem lg.at(h:lg w v n g)(hn:0<n):∃b o cap,v=.slice (D ⟨b,o,I⟩) n cap/\n<=cap/\cap<=maxLen/\∀j,j<n->aj w b (o+j) (J (g j)):=by
 obtain⟨a,cap,h1,h2,h3,h4⟩:=h;obtain⟨b,o,rfl,hc⟩:=h4 hn;exact⟨b,o,cap,h1,h2,h3,hc⟩
theorem Rd.ro(h:Rd w .i64 v n n g):lg w v n g:=by
 obtain⟨a,cap,h1,h2,h3,h4⟩:=h;refine⟨a,cap,h1,h2,h3,fun hn=>?_⟩;obtain⟨b,hb,hc⟩:=h4 hn;exact⟨b,0,hb,fun j hj=>by rw[Nat.zero_add];exact hc j hj⟩
def zX(x:Int):Prop:=-2047<=x/\x<=2047
theorem Zn(n:Nat)(f:Nat->Int):(∀i,i<n->zX (f i))\/∃m,m<n/\(∀i,i<m->zX (f i))/\¬zX (f m):=by
 induction n with
 |zero=>exact .inl (fun i hi=>absurd hi om)
 |succ n ih=>
  rcases ih with h|⟨m,hm,h,hn⟩
  ·by_cases hb:zX (f n)
   ·exact .inl fun i hi=>by
     rcases(show i<n\/i=n by omega)with h1|rfl
     ·exact h i h1
     ·exact hb
   ·exact .inr ⟨n,om,h,hb⟩
  ·exact .inr ⟨m,om,h,hn⟩
theorem Ie(hr:lg w v L f)(n:Int)(hn:(L:Int)≠n):
  QW 76 #[v,J n] w (.bool false):=by
 obtain⟨a,ca,rfl,_⟩:=hr;go_enter func76,ntmps76;go_wp2;go_returns;exact⟨rfl,rfl⟩
theorem nT(hr:lg w v L f)(hpos:0<L)(hL:L<=2000000)(h:∀i,i<L->zX (f i))(n:Int)(hn:(L:Int)=n):
  QW 76 #[v,J n] w (.bool true):=by
 subst hn;obtain⟨b,q0,cap,rfl,_,_,hc⟩:=hr.at hpos;have HC:Hid _:=hc;have HB:Hid _:=h;clear hr hc h;go_enter func76,ntmps76;go_wp2;go_loopw [5] (fun i wr=>∃j:Nat,j<=L/\i=J j/\w=wr) (fun i _=>L-(intOf i).toNat)
 case atStart=>exact⟨0,Nat.zero_le _,rfl,rfl⟩
 case round=>
  obtain⟨j,hj,rfl,rfl⟩:=hrel;by_cases hlt:j<L
  ·have hlt':(j:Int)<(L:Int):=om;have hb:=HB j hlt;have c0:aj w b (q0+j) (J (f j)):=HC _ om;exact aCT
  ·obtain rfl:j=L:=om;have uf:¬(j:Int)<(j:Int):=om;go_wp2;go_returns;exact⟨rfl,rfl⟩
theorem NW(hr:lg w v L f)(hL:L<=2000000)(m:Nat)(hm:m<L)(h:∀i,i<m->zX (f i))(hbad:¬zX (f m))(n:Int)(hn:(L:Int)=n):
  QW 76 #[v,J n] w (.bool false):=by
 subst hn;obtain⟨b,q0,cap,rfl,_,_,hc⟩:=hr.at om;have HC:Hid _:=hc;have HB:Hid _:=h;have HN:Hid _:=hbad;clear hr hc h hbad;go_enter func76,ntmps76;go_wp2;go_loopw [5] (fun i wr=>∃j:Nat,j<=m/\i=J j/\w=wr) (fun i _=>L-(intOf i).toNat)
 case atStart=>exact⟨0,Nat.zero_le _,rfl,rfl⟩
 case round=>
  obtain⟨j,hj,rfl,rfl⟩:=hrel;have hlt':(j:Int)<(L:Int):=om;have c0:aj w b (q0+j) (J (f j)):=HC _ om;by_cases hlt:j<m
  ·have hb:=HB j hlt;exact aCT
  ·obtain rfl:j=m:=om;have hb:f j< -2047\/¬f j< -2047/\2047<f j:=by
    rcases(show f j< -2047\/(¬f j< -2047/\2047<f j)\/(-2047<=f j/\f j<=2047) by omega)with h|h|h
    ·exact .inl h
    ·exact .inr h
    ·exact absurd h HN.out
   generalize f j=x at*
   rcases hb with x0|⟨x0,x1⟩
   ·go_wp2;go_returns;exact⟨rfl,rfl⟩
   ·go_wp2;go_returns;exact⟨rfl,rfl⟩
theorem Df(H:o.S)(hr:lg w v L f)(hpos:0<L)(hL:L<=2000000)(h:∀i,i<L->zX (f i)):
  CT 77 #[v] w fun e w'=>∃v',e=U v'/\Ow w' w.heap.size 33 1 O v' L (fun j=>o.int (f j))/\Gb w w':=by
 obtain⟨b,q0,cap,rfl,_,_,hc⟩:=hr.at hpos;have HC:Hid _:=hc;have HW:Hid (∀j,j<L->∀w,QB 40 #[J (f j)] w (Y (o.int (f j)))):=fun j hj w=>DF H (f j) (h j hj).1 (h j hj).2 w;have hb:=au (hc 0 om);clear hr hc h H;go_enter func77,ntmps77;go_wp2;go_loopw [3,4] (fun s i wr=>∃j:Nat,j<=L/\i=J (j:Int)/\Ow wr w.heap.size 33 1 O s j (fun m=>o.int (f m))/\Gb w wr) (fun _ i _=>L-(intOf i).toNat)
 case atStart=>exact⟨0,Nat.zero_le _,rfl,Ow.lit w _ _ _ _,kg⟩
 case round=>
  obtain⟨j,hj,rfl,hof,hgb⟩:=hrel;have HO:Hid _:=hof;have hsz:=hgb.size;by_cases hlt:j<L
  ·have hlt':(j:Int)<(L:Int):=om;have HWj:Hid _:=HW j hlt;obtain⟨x,hx⟩:∃x,f j=x:=⟨_,rfl⟩;obtain⟨z,hz⟩:∃z,o.int (f j)=z:=⟨_,rfl⟩;have x0:wr.cell? ⟨b,q0+j,I⟩=D (J x):=by rw[<-hx];exact hgb.old (HC j om)
   have e0:Hid ((fun m=>o.int (f m)) (j*1+0)=z):=by show _=_;rw[<-hz,Nat.mul_one,Nat.add_zero]
   rw[hz,hx]at HWj;have Kv:Hid (∀w2,Gb wr w2->Ow w2 w.heap.size 33 1 O _ j (fun m=>o.int (f m))):=fun w2 hg=>hof.gb hg;clear hof hx hz;go_wp2_with (first
    |(go_at_call 40;refine ku (HWj _) fun w2 aA=>?_)
    |(at_builtin;refine h_ rfl _ _ 27 rfl 33 (Y 0) 1 8 O Tryz.underlying27 ER rfl de de w.heap.size j 1 (fun m=>o.int (f m)) _ w2.heap.size rfl (Kv _ kg) rfl (nM (g:=fun m=>o.int (f m)) (m:=j*1) (by simp[go_sem]) e0.out) om om (by have:=aA.size;rw[World.size_alloc];omega) ?_;intro v' w3 hown3 hb3 _ _))
   go_roundw
   case rel=>exact⟨j+1,om,by go_num,hown3,Gb.below kg hb3 (Nat.le_refl _)⟩
   case measure=>simp[intOf]<;>omega
  ·obtain rfl:j=L:=om;have hlt':¬(j:Int)<(j:Int):=om;clear hof;go_wp2;go_returns;exact⟨_,rfl,HO.out,hgb⟩
abbrev oK(F:Nat)(K:Int)(vf vg:Value)(w:World):Prop:=Calls Tryz.prog F #[J K,vf,vg] w fun e w'=>∃v,e=U (.tuple #[v,.bool false])/\Ow w' w.heap.size 3 1 .i64 v 0 (fun _=>0)/\Gb w w'
theorem SK(K:Int)(h:K<1\/¬K<1/\6<K)(vf vg:Value)(w:World):oK 30 K vf vg w:=by
 rcases h with h|⟨h,h'⟩
 ·go_enter func30,ntmps30;go_wp2;go_returns;exact⟨_,rfl,Ow.lit w _ _ _ _,kg⟩
 ·go_enter func30,ntmps30;go_wp2;go_returns;exact⟨_,rfl,Ow.lit w _ _ _ _,kg⟩
theorem SN(K N:Int)(k1:¬K<1)(k6:¬6<K)(vf vg:Value)(w:World)(HN:KW 50 #[J K] (J N))
  (HF:Hid (QW 76 #[vf,J N] w (.bool false))):oK 30 K vf vg w:=by
 go_enter func30,ntmps30;go_wp2_with (first
  |(go_at_call 50;refine kw (HN _) ?_)
  |(go_at_call 76;refine HF.out.mono ?_;rintro e wk ⟨rfl,hwk⟩;subst hwk))
 go_returns;exact⟨_,rfl,Ow.lit w _ _ _ _,kg⟩
theorem SL(K N:Int)(k1:¬K<1)(k6:¬6<K)(vf vg:Value)(w:World)(HN:KW 50 #[J K] (J N))
  (HF:Hid (QW 76 #[vf,J N] w (.bool true))) (HG:Hid (QW 76 #[vg,J N] w (.bool false))):oK 30 K vf vg w:=by
 go_enter func30,ntmps30;go_wp2_with (first
  |(go_at_call 50;refine kw (HN _) ?_)
  |(go_at_call 76;first|(with_reducible refine HF.out.mono ?_;rintro e wk ⟨rfl,hwk⟩;subst hwk)|(with_reducible refine HG.out.mono ?_;rintro e wk ⟨rfl,hwk⟩;subst hwk)))
 go_returns;exact⟨_,rfl,Ow.lit w _ _ _ _,kg⟩
theorem Zk:(Tryz.prog.info? 3).map (fun i=>(i.zero,i.size,i.bytes))=D (D (J 0),1,8):=by kernel_rfl
structure Mk (w w':World) (v:Value):Prop where
 os:w'.os=w.os
 tape:w'.tape=w.tape
 output:w'.output=w.output
 size:w'.heap.size=w.heap.size
 block:∀p,v.ownBlock≠D p->w'.heap[p]?=w.heap[p]?
theorem Mk.refl(w:World)(v:Value):Mk w w v:=⟨rfl,rfl,rfl,rfl,fun _ _=>rfl⟩
theorem Mk.set(h:Mk w w' (aB b n cap))(j:Nat)(u:Value):Mk w (w'.setCell ⟨b,j,I⟩ u) (aB b n cap):=by
 refine⟨h.os,h.tape,h.output,by simp[h.size],fun p hp=>?_⟩;rw[Below.heap_setCell _ _ _ _ (fun e=>hp (by rw[e];rfl))];exact h.block p hp
theorem Mk.below(h:Mk w w' v)(hv:∀p,v.ownBlock=D p->base<=p):Below base w w':=by
 refine⟨h.os,h.tape,h.output,Nat.le_of_eq h.size.symm,fun p hp=>h.block p fun e=>?_⟩;have:=hv p e;omega
theorem Mk.cell(h:Mk w w' v):∀p off u,aj w p off u->v.ownBlock≠D p->aj w' p off u:=fun p off u hu hne=>(World.cell?_of_block (w:=w) (a:=⟨p,off,I⟩) (h.block p hne)).trans hu
theorem Rd.mk(h:Mk w w' v)(hr:Rd w k u n m g)(hne:∀p,u.ownBlock=D p->v.ownBlock≠D p):Rd w' k u n m g:=by
 obtain⟨a,cap,rfl,h2,h3,h4⟩:=hr;refine⟨a,cap,rfl,h2,h3,fun hn=>?_⟩;obtain⟨b,rfl,hc⟩:=h4 hn;exact⟨b,rfl,fun j hj=>h.cell _ _ _ (hc j hj) (hne b rfl)⟩
theorem Ow.mk(h:Mk w w' v)(ho:Ow w base t size k u n g)(hne:∀p,u.ownBlock=D p->v.ownBlock≠D p):Ow w' base t size k u n g:=by
 refine⟨ho.1,?_⟩;rcases ho.2 with hn|⟨b,cap,cur,rfl,hb,hh,rest⟩
 ·exact .inl hn
 ·refine .inr ⟨b,cap,cur,rfl,hb,?_,rest⟩;rw[h.block b (hne b rfl)];exact hh
def oL(w:World)(k:IntKind)(a:Option Addr)(n:Nat)(g:Nat->Int):Prop:=n=0\/∃b off,a=D ⟨b,off,I⟩/\∀i,i<n->aj w b (off+i) (.int k (g i))
theorem oL.gb{a:Option Addr}(h:oL w k a n g)(hg:Gb w w'):oL w' k a n g:=by
 rcases h with h|⟨b,off,e,hc⟩
 ·exact .inl h
 ·exact .inr ⟨b,off,e,fun i hi=>hg.old (hc i hi)⟩
theorem GL(K N:Int)(n h:Nat)(hn:n<=128)(hh:h<=128)(hn0:0<n)(hh0:0<h)(k1:¬K<1)(k6:¬6<K)(vf vg:Value)(w:World)(cf cg cs tz:Nat->Int)(zf zg zp:Nat->Int × Int)
  (HN:KW 50 #[J K] (J N))
  (HF:Hid (QW 76 #[vf,J N] w (.bool true))) (HG:Hid (QW 76 #[vg,J N] w (.bool true)))
  (HWf:Hid (∀w',Gb w w'->CT 77 #[vf] w' fun e w''=>∃v,e=U v/\Rd w'' O v n n cf/\Gb w' w''))
  (HWg:Hid (∀w',Gb w w'->CT 77 #[vg] w' fun e w''=>∃v,e=U v/\Rd w'' O v n n cg/\Gb w' w''))
  (HTf:Hid (∀w' u,Rd w' O u n n cf->CT 16 #[J K,u] w' fun e w''=>∃b cap,e=U (aB b h cap)/\b<w''.heap.size/\(∀q,q<h*2->aj w'' b q (Y (flat zf q)))/\Gb w' w''))
  (HTg:Hid (∀w' u,Rd w' O u n n cg->CT 16 #[J K,u] w' fun e w''=>∃b cap,e=U (aB b h cap)/\b<w''.heap.size/\(∀q,q<h*2->aj w'' b q (Y (flat zg q)))/\Gb w' w''))
  (HP:Hid (∀j,j<h->∀w',QB 52 #[aG ((zf j).1) ((zf j).2),aG ((zg j).1) ((zg j).2)] w' (aG ((zp j).1) ((zp j).2))))
  (HB:Hid (∀w' u,Rd w' O u h (h*2) (flat zp)->CT 25 #[J K,u] w' fun e w''=>∃b cap,e=U (aB b n cap)/\b<w''.heap.size/\(∀q,q<n->aj w'' b q (Y (cs q)))/\Gb w' w''))
  (HI:Hid (∀j,j<n->∀w',CT 63 #[J 1,J 0,J 1,Y (cs j)] w' fun e w''=>∃fl:Int,e=U (aK (tz j) fl)/\Gb w' w'')):
  CT 30 #[J K,vf,vg] w fun e w'=>∃v,e=U (.tuple #[v,.bool true])/\Ow w' w.heap.size 3 1 .i64 v n (fun j=>IntKind.i64.wrap (tz j))/\Gb w w':=by
 have hf:=sK;go_enter func30,ntmps30;go_upto_region 3 with(first
  |(go_at_call 50;refine kw (HN _) ?_)
  |(go_at_call 76;first|(with_reducible refine HF.out.mono ?_;rintro e wk ⟨rfl,hwk⟩;subst hwk)|(with_reducible refine HG.out.mono ?_;rintro e wk ⟨rfl,hwk⟩;subst hwk)))
 clear HN HF HG;go_upto_region 4 with(first
  |(go_at_call 77;refine(HWf _ kg).mono ?_;rintro e w1 ⟨u1,rfl,hr1,ak⟩)
  |(go_at_call 16;refine(HTf _ _ hr1).mono ?_;rintro e w2 ⟨ba,ca,rfl,hba,hca,aA⟩))
 go_upto_region 5 with(first
  |(go_at_call 77;refine(HWg _ kg).mono ?_;rintro e w3 ⟨u3,rfl,hr3,aF⟩)
  |(go_at_call 16;refine(HTg _ _ hr3).mono ?_;rintro e W ⟨bb,cb,rfl,hbb,hcb,yj⟩))
 have gA:Gb w2 W:=aF.trans yj;have WM:Hid (∀q,q<h*2->aj W ba q (Y (flat zf q))):=fun q hq=>gA.old (hca q hq);have WL:Hid _:=hcb;have hgW:Gb w W:=kg;have aFh:ba<W.heap.size:=by have:=gA.size;omega
 have V5:=hgW.size;clear hca hcb ak aA aF yj gA HWf HWg HTf HTg hr1 hr3 hba;go_wp2;go_loopw [10,11] (fun f i wr=>∃j:Nat,j<=h/\i=J j/\Ow wr W.heap.size 59 2 O f j (flat zp)/\Gb W wr) (fun _ i _=>h-(intOf i).toNat)
 case atStart=>exact⟨0,Nat.zero_le _,rfl,Ow.lit W _ _ _ _,kg⟩
 case round=>
  obtain⟨j,hj,rfl,hof,hgb⟩:=hrel;have hsz:=hgb.size;by_cases hlt:j<h
  ·have hlt':(j:Int)<(h:Int):=om;obtain⟨a1,ha1⟩:∃a1,(zf j).1 =a1:=⟨_,rfl⟩;obtain⟨a2,ha2⟩:∃a2,(zf j).2 =a2:=⟨_,rfl⟩;obtain⟨d1,hd1⟩:∃d1,(zg j).1 =d1:=⟨_,rfl⟩;obtain⟨d2,hd2⟩:∃d2,(zg j).2 =d2:=⟨_,rfl⟩;obtain⟨t1,ht1⟩:∃t1,(zp j).1 =t1:=⟨_,rfl⟩;obtain⟨t2,ht2⟩:∃t2,(zp j).2 =t2:=⟨_,rfl⟩;have p0:wr.cell? ⟨ba,j*2,I⟩=D (Y a1):=by rw[<-ha1,<-dh,Nat.mul_comm];exact hgb.old (WM (2*j) om)
   have p1:wr.cell? ⟨ba,j*2+1,I⟩=D (Y a2):=by rw[<-ha2,<-dn,Nat.mul_comm];exact hgb.old (WM (2*j+1) om)
   have p2:wr.cell? ⟨bb,j*2,I⟩=D (Y d1):=by rw[<-hd1,<-dh,Nat.mul_comm];exact hgb.old (WL (2*j) om)
   have p3:wr.cell? ⟨bb,j*2+1,I⟩=D (Y d2):=by rw[<-hd2,<-dn,Nat.mul_comm];exact hgb.old (WL (2*j+1) om)
   have G1:=HP j hlt;rw[ha1,ha2,hd1,hd2,ht1,ht2]at G1;have F1:Hid _:=G1;have e0:Hid (flat zp (j*2+0)=t1):=by show _=_;rw[show j*2+0=2*j by omega,dh,ht1]
   have e1:Hid (flat zp (j*2+1)=t2):=by show _=_;rw[show j*2+1=2*j+1 by omega,dn,ht2]
   have FV:=fun w' (hg:Gb wr w')=>Ow.gb hof hg;have Kv:Hid _:=FV;have HNa:Hid _:=hof.nlt aFh;have HNb:Hid _:=hof.nlt hbb;clear hof FV G1 ha1 ha2 hd1 hd2 ht1 ht2 HP HB HI;go_wp2;go_region_held3 (fun w'=>aj w' ba (j*2) (Y a1)/\aj w' ba (j*2+1) (Y a2)/\aj w' bb (j*2) (Y d1)/\aj w' bb (j*2+1) (Y d2))
    (exact kZ)
    (first
     |(go_at_call 52;with_reducible refine ku (F1.out _) fun w3 aF=>?_;have hz3:=aF.size;(try simp only[World.size_alloc,World.size_drew,World.size_setCell]at hz3))
     |(refine step_more rfl _ _ 22 rfl 59 (.agg #[Y 0,Y 0]) 2 16 O Tryz.underlying22 ES rfl de de W.heap.size j 1 (flat zp) _ w3.heap.size rfl (Kv _ kg) rfl (Dw 1 2 rfl (by simp[go_sem]) (by simp[go_sem]) e0.out e1.out) om om (by simp[go_sem];omega) ?_;intro v' w4 hown4 hb4 hk4 _;have r0:aj w4 ba (j*2) (Y a1):=hk4 _ _ _ kb HNa.out;have r1:aj w4 ba (j*2+1) (Y a2):=hk4 _ _ _ kb HNa.out;have r2:aj w4 bb (j*2) (Y d1):=hk4 _ _ _ kb HNb.out;have r3:aj w4 bb (j*2+1) (Y d2):=hk4 _ _ _ kb HNb.out))
   all_goals
    exact aCS
  ·obtain rfl:j=h:=om;have uf:¬(j:Int)<(j:Int):=om;have hgw:Gb w wr:=hgW.trans hgb;have hrd:=Ow.rd hof;clear hof WM WL HP;go_upto_region 11 with(go_at_call 25;refine(HB _ _ hrd).mono ?_;rintro e V ⟨bc,cc,rfl,hbc,hcc,aGT⟩);have hgV:Gb w V:=hgw.trans aGT;have HCC:Hid _:=hcc;have aID:=hgV.size;clear hcc aGT hrd HB hgw;go_wp2;go_loopw [13,14] (fun f i wr=>∃j:Nat,j<=n/\i=J j/\Ow wr V.heap.size 3 1 .i64 f j (fun j=>IntKind.i64.wrap (tz j))/\Gb V wr) (fun _ i _=>n-(intOf i).toNat)
   case atStart=>exact⟨0,Nat.zero_le _,rfl,Ow.lit V _ _ _ _,kg⟩
   case round=>
    obtain⟨i,hi,rfl,hof,EX⟩:=hrel;have hsz2:=EX.size;by_cases hlt:i<n
    ·have hlt':(i:Int)<(n:Int):=om;have HIj:Hid _:=HI i hlt;have x0:aj wr bc i (Y (cs i)):=EX.old (HCC i om);obtain⟨y,hy⟩:∃y,IntKind.i64.wrap (tz i)=y:=⟨_,rfl⟩;have e0:Hid ((fun j=>IntKind.i64.wrap (tz j)) (i*1+0)=y):=by show _=_;rw[Nat.mul_one,Nat.add_zero];exact hy
     have Kv:Hid (∀w2,Gb wr w2->Ow w2 V.heap.size 3 1 .i64 _ i (fun j=>IntKind.i64.wrap (tz j))):=fun w2 hg=>Ow.gb hof hg;clear hof;go_wp2_with (first
      |(go_at_call 63;refine(HIj _).mono ?_;rintro e w2 ⟨fl,rfl,aA⟩)
      |(at_builtin;refine h_ rfl _ _ 45 rfl 3 (J 0) 1 8 .i64 Tryz.underlying45 Zk rfl de de V.heap.size i 1 (fun j=>IntKind.i64.wrap (tz j)) _ w2.heap.size rfl (Kv _ kg) rfl (nM (g:=fun j=>IntKind.i64.wrap (tz j)) (m:=i*1) (by simp[go_sem]) e0.out) om om (by have:=aA.size;rw[World.size_alloc];omega) ?_;intro v' w3 hown3 hb3 _ _))
     go_roundw
     case rel=>exact⟨i+1,om,by go_num,hown3,Gb.below kg hb3 (Nat.le_refl _)⟩
     case measure=>simp[intOf]<;>omega
    ·obtain rfl:i=n:=om;have hlt':¬(i:Int)<(i:Int):=om;have OD:=Ow.mono hof aID;have hgE:Gb w wr:=hgV.trans EX;clear hof;go_wp2;go_returns;exact⟨_,rfl,OD,hgE⟩
