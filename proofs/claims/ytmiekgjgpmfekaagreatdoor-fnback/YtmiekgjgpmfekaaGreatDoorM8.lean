import Derived.Test.YtmiekgjgpmfekaaGreatDoorK5
set_option linter.all false
set_option maxRecDepth 1000000
set_option maxHeartbeats 40000000
open Bool renaming false → U, true → D
open Go.Proofs.YtmiekgjgpmfekaaGreatDoor renaming vI → J
open Go.Value renaming agg → Y, bool → X, tuple → V
open Go.Ending renaming returned → O
open Go.Proofs.Tryz
namespace Go.Proofs.YtmiekgjgpmfekaaGreatDoor
open Go.RowKit
variable{p mx one inf f sg nan e s mode z g a v mn sign fl:Int}{M N K b k c S I:Nat}{w:World}{args:Array Value}
theorem aC3{P:Prop}(h:P:=by
 go_enter func131,ntmps131;go_wp2_with (first
  |(go_at_call 129;refine kw (HK _) ?_)
  |(go_at_call 100;refine(HO _).mono ?_;rintro e n1 ⟨b1,k1,q1,hb1,rfl,mV⟩)
  |(go_at_call 99;with_reducible refine(HS.out _ _ hb1).mono ?_;rintro e n2 ⟨b2,k2,q2,hb2,rfl,EY⟩)
  |(go_at_call 176;with_reducible refine(HB.out _ _ _ (aC.gb hb2 mV) hb1).mono ?_;rintro e n4 ⟨b4,k4,q4,hb4,rfl,uX⟩))
 go_returns;exact⟨_,_,_,hb4,rfl,Gb.g⟩):P:=h
attribute [local go_sem] aj bK
def lD(kind:Int):Int:=if kind=0\/kind=2 then 32 else if kind=1\/kind=3 then 64 else 0
def wP(kind:Int):Bool:=decide (kind=0\/kind=1)
theorem jC(kind:Int)(w:World):QW 129 #[J kind] w (V #[J (lD kind),X (wP kind)]):=by
 rcases(show kind=0\/kind=1\/kind=2\/kind=3\/(kind≠0/\kind≠1/\kind≠2/\kind≠3) by omega)with rfl|rfl|rfl|rfl|⟨c0,c1,c2,c3⟩
 case inr.inr.inr.inr=>
  have e0:(kind==0)=U:=by simp[c0]
  have e1:(kind==1)=U:=by simp[c1]
  have e2:(kind==2)=U:=by simp[c2]
  have e3:(kind==3)=U:=by simp[c3]
  have h1:lD kind=0:=by simp[lD,c0,c1,c2,c3]
  have h2:wP kind=U:=by simp[wP,c0,c1]
  rw[h1,h2];go_enter func129,ntmps129;go_wp2;go_returns;exact⟨rfl,rfl⟩
 all_goals
  go_enter func129,ntmps129;go_wp2;go_returns;exact⟨rfl,rfl⟩
theorem qW(kind s B t:Int)(S:Bool)(T:Nat)(hs:s=0\/s=1/\S=D)(hB:(if S then B-1 else B)=t)(B0:0<=B)(B1:B<=64)(t0:0<=t)(hT:T=2^t.toNat)
  (HK:kX kind B S) (w:World):
  CT 131 #[J kind,J s] w (qh 20 (if s=1 then T else T-1) w):=by
 have T0:1<=T:=by rw[hT];exact Nat.pow_pos de
 have t64:t<=64:=by split at hB<;>omega
 have HO:Hid (∀w,CT 100 #[.int .u64 1] w (qh 2 1 w)):=fun w=>dV (fC 1 om w);have HS:Hid (∀v w,aC 2 w v 1->CT 99 #[v,J t] w (qh 20 T w)):=fun v w ⟨n,a1,a2⟩=>by
  obtain⟨m,rfl⟩:=Int.eq_ofNat_of_zero_le t0;rw[Int.toNat_natCast]at hT;rw[hT,<-Nat.one_mul (2^m)];exact dV ((fV a2 om m om).mono (fun e w' ⟨v,k,c1,c2,c3,c4⟩=>⟨v,k,c1,c2,om,c4⟩))
 have HB:Hid (∀v v' w,aC 20 w v T->aC 2 w v' 1->CT 176 #[v,v'] w (qh 20 (T-1) w)):=fun v v' w ⟨n,a1,a2⟩ ⟨n',b1,b2⟩=>dV ((lK a2 om b2 om om).mono (fun e w' ⟨v,k,c1,c2,c3,c4⟩=>⟨v,k,c1,c2,om,c4⟩));clear hT;cases S
 ·rw[if_neg (by decide)]at hB;rcases hs with rfl|⟨_,h⟩
  ·rw[if_neg (by decide)];subst hB;exact aC3
  ·cases h
 ·rw[if_pos rfl]at hB;have u1:IntKind.i64.wrap (B-1)=t:=wi;rcases hs with rfl|⟨rfl,_⟩
  ·rw[if_neg (by decide)];exact aC3
  ·rw[if_pos rfl];go_enter func131,ntmps131;go_wp2_with (first
    |(go_at_call 129;refine kw (HK _) ?_)
    |(go_at_call 100;refine(HO _).mono ?_;rintro e n1 ⟨b1,k1,q1,hb1,rfl,mV⟩)
    |(go_at_call 99;with_reducible refine(HS.out _ _ hb1).mono ?_;rintro e n2 ⟨b2,k2,q2,hb2,rfl,EY⟩))
   go_returns;exact⟨_,_,_,hb2,rfl,Gb.g⟩
theorem Na(kind B:Int)(HK:kX kind B U)(w:World):
  CT 131 #[J kind,J 1] w (qh 20 0 w):=by
 go_enter func131,ntmps131;go_wp2_with (go_at_call 129;refine kw (HK _) ?_);go_returns;refine⟨_,_,_,⟨0,om,⟨de,.inl rfl⟩,(lY w 0).raw de⟩,rfl,Gb.g⟩
theorem sS(kind s:Int)(hs:s=0\/s=1)(w:World):
  CT 131 #[J kind,J s] w (qh 20 (bG kind s) w):=by
 by_cases c:wP kind=D
 ·have hk:kind=0\/kind=1:=by unfold wP at c;exact of_decide_eq_true c
  rcases hk with rfl|rfl
  ·have:=qW 0 s 32 31 D 2147483648 (hs.imp id (fun h=>⟨h,rfl⟩)) de om om om de (fun w=>jC 0 w) w;rcases hs with rfl|rfl<;>exact this
  ·have:=qW 1 s 64 63 D 9223372036854775808 (hs.imp id (fun h=>⟨h,rfl⟩)) de om om om de (fun w=>jC 1 w) w;rcases hs with rfl|rfl<;>exact this
 ·have c':wP kind=U:=by simpa using c
  have HK:kX kind (lD kind) U:=fun w=>c'▸jC kind w;have hk:¬(kind=0\/kind=1):=by unfold wP at c';exact of_decide_eq_false c'
  rcases hs with rfl|rfl
  ·rcases(show kind=2\/kind=3\/(kind≠2/\kind≠3) by omega)with rfl|rfl|⟨d,d'⟩
   ·exact qW 2 0 32 32 U 4294967296 om de om om om de HK w
   ·exact qW 3 0 64 64 U 18446744073709551616 om de om om om de HK w
   ·have e1:lD kind=0:=by unfold lD;rw[if_neg om,if_neg (by omega)]
    have e2:bG kind 0=0:=by unfold bG;rw[if_neg om,if_neg om,if_neg om,if_neg (by omega)]
    rw[e2];rw[e1]at HK;exact qW kind 0 0 0 U 1 om de om om om de HK w
  ·have e2:bG kind 1=0:=by unfold bG;rw[if_neg om,if_neg (by omega)];(repeat' split)<;>first|rfl|omega
   rw[e2];exact Na kind _ HK w
theorem TA(kind a B d:Int)(M L:Nat)(t:Bool)(B0:0<B)(hd:decide (d<=0)=t)(ha:decide (9223372036854775808<=a)=U)(HK:kX kind B D)(HB:Hid (∀w,CT 100 #[.int .u64 a] w (qh 2 M w)))(HT:KW 120 #[J 63] (.int .u64 9223372036854775808))(HM:Hid (∀w,CT 131 #[J kind,J 0] w (qh 20 L w)))(HC:Hid (∀v v' w,aC 2 w v M->aC 20 w v' L->QB 102 #[v,v'] w (J d)))(w:World):
  CT 80 #[J kind,.int .u64 a] w fun e w'=>∃b k c,aC 2 w' (aB b k c) M/\e=O (V #[Y #[J 0,aB b k c,J 0,X U],X t])/\Gb w w':=by
 go_enter func80,ntmps80;go_upto_region 3 with(first
  |(go_at_call 129;refine kw (HK _) ?_)
  |(go_at_call 100;refine(HB _).mono ?_;rintro e n1 ⟨b1,k1,q1,hb1,rfl,mV⟩;have t_:=mV.FW w;have hz1:=au t_.1))
 obtain⟨w2,hw2⟩:∃w2,n1.alloc (.cells #[J 0,aB b1 k1 q1,J 0,X U] 109)=w2:=⟨_,rfl⟩;have aA:Gb n1 w2:=by rw[<-hw2];exact(Gb.refl _).alloc _
 have hb2:aC 2 w2 (aB b1 k1 q1) M:=aC.gb hb1 aA;have x0:w2.cell? ⟨n1.heap.size,0,none⟩=some (J 0):=by rw[<-hw2];simp[go_sem]
 have x1:w2.cell? ⟨n1.heap.size,1,none⟩=some (aB b1 k1 q1):=by rw[<-hw2];simp[go_sem]
 have x2:w2.cell? ⟨n1.heap.size,2,none⟩=some (J 0):=by rw[<-hw2];simp[go_sem]
 have x3:w2.cell? ⟨n1.heap.size,3,none⟩=some (X U):=by rw[<-hw2];simp[go_sem]
 have hz2:n1.heap.size<w2.heap.size:=by rw[<-hw2];simp
 rw[hw2];clear hw2;have:=aA.FW w;have hgw:Gb w w2:=Gb.g;go_wp2_with (go_at_call 120;refine kw (HT _) ?_);go_region_held3 (fun w'=>aj w' n1.heap.size 0 (J 0)/\aj w' n1.heap.size 1 (aB b1 k1 q1)/\aj w' n1.heap.size 2 (J 0)/\aj w' n1.heap.size 3 (X U))
  (exact kZ)
  (first
   |(go_at_call 131;refine(HM _).mono ?_;rintro e n3 ⟨b3,k3,q3,hb3,rfl,zA⟩;have:=zA.FW w)
   |(go_at_call 102;with_reducible refine ku (HC.out _ _ _ (aC.gb hb2 Gb.g) (aC.gb hb3 Gb.g)) fun n4 uX=>?_;have BK:=uX.FW w))
 all_goals go_wp2
 all_goals
  refine bodyPost_ret (v:=V #[Y #[J 0,aB b1 k1 q1,J 0,X U],X t]) (by simp[results,Tryz.results80,go_sem,BK,hd]) rfl ⟨b1,k1,q1,?_,rfl,?_⟩
  ·exact(aC.gb hb2 Gb.g).Uw BK.1 BK.2.2.1 BK.2.2.2.2.1 BK.2.2.2.2.2.2.1
  ·exact Gb.g
theorem nZ(h:aP f p mx one inf sg nan)(a0:0<=a){x:bZ}(hx:bP p mx one inf sg nan a x)(hc:x.c<=2)(mode:Int):bW p (1-mx) mx one inf sg nan mode x a 0:=by
 have hb:=h.bounds;have c0:=(bQ h hx).1.c0;obtain⟨ha,v,⟨hs,v0,v1,d0,d2⟩,hn,hz⟩:=lW h a0 hx hc;have e:a=sw x.s sg v:=by
  unfold sw;rcases hs with⟨s0,rfl⟩|⟨s1,rfl⟩
  ·rw[if_neg (by omega)]
  ·rw[if_pos s1]
 rcases(show x.c=0\/x.c=1\/x.c=2 by omega)with c|c|c
 ·exact .inl ⟨c,by rw[e,d0.1 c],rfl⟩
 ·refine .inr (.inl ⟨c,v,?_,e⟩);obtain⟨_,_,_,_,hr⟩:=aCn h mode x.s v x.e (x.M:Int) om om (hn c);rw[Int.toNat_natCast]at hr;exact hr
 ·exact .inr (.inr (.inl ⟨c,by rw[e,d2.1 c],rfl⟩))
theorem JM{P:Int->Int->Prop}(one:∀Z fl Z' oQ,P Z fl->P Z' oQ->Z=Z'/\fl=oQ)(ex:∃Z fl,P Z fl)
  (hs:∀w,Calls Tryz.prog S args w (Ey P w))
  (hi:∀w,Fm w->Calls Tryz.prog I args w (zW P w)):
  ∃Z fl:Int,P Z fl/\(∀w,Calls Tryz.prog S args w fun e w'=>e=O (aK Z fl)/\Gb w w')/\
   (∀w,Fm w->Calls Tryz.prog I args w fun e w'=>e=O (aK Z fl)/\Gr w w'):=by
 obtain⟨Z,fl,h⟩:=ex;refine⟨Z,fl,h,fun w=>(hs w).mono ?_,fun w hw=>(hi w hw).mono ?_⟩
 ·rintro e w' ⟨Z',oQ,h',rfl,hg⟩;obtain⟨rfl,rfl⟩:=one _ _ _ _ h h';exact⟨rfl,hg⟩
 ·rintro e w' ⟨Z',oQ,h',rfl,hg⟩;obtain⟨rfl,rfl⟩:=one _ _ _ _ h h';exact⟨rfl,hg⟩
theorem bP.bare(h:aP f p mx one inf sg nan)(hs:s=0\/s=1)(v0:0<=v)(v1:v<=inf){y:bZ}(hy:bP p mx one inf sg nan (sw s sg v) y):y.s=s/\bP p mx one inf sg nan v ⟨y.c,0,y.e,y.M⟩:=by
 have hb:=h.bounds;have hw:s=0/\sw s sg v=v\/s=1/\sw s sg v=v+sg:=by
  unfold sw;rcases hs with rfl|rfl
  ·exact .inl ⟨rfl,by rw[if_neg (by decide)]⟩
  ·exact .inr ⟨rfl,by rw[if_pos rfl]⟩
 rcases hy with⟨_,v',hs',hv'⟩|⟨c,_⟩
 ·have e:v'=v/\y.s=s:=om;obtain⟨rfl,e2⟩:=e;exact⟨e2,.inl ⟨om,v',.inl ⟨rfl,rfl,om⟩,hv'⟩⟩
 ·exfalso;omega
theorem YV(M:Nat)(e q:Int)(he:0<=e+6000)(hq:0<=q+6000)(h:aJ M e q U=0):nv (aW M e q) q=nv M e:=by
 unfold nv aW;by_cases c:q<=e
 ·rw[if_pos c,Nat.mul_assoc,<-Nat.pow_add,show(e-q).toNat +(q+6000).toNat =(e+6000).toNat by omega]
 ·rw[if_neg c];rw[pO _ _ _ _ c]at h;obtain⟨d,hd⟩:∃d,(q-e).toNat =d+1:=⟨(q-e).toNat -1,om⟩;rw[hd]at h⊢
  unfold hr at h;rw[Nat.add_sub_cancel]at h;have h1:¬M/2^d%2=1:=fun k=>by rw[if_pos k]at h;omega
  have h2:M%2^d=0:=by
   rcases Nat.eq_zero_or_pos (M%2^d)with k|k
   ·exact k
   ·rw[if_pos (show M%2^d≠0\/U=D from .inl om)]at h;omega
  have h3:=Nat.div_add_mod M (2^d);rw[h2,Nat.add_zero]at h3;have h4:M/2^d=2*(M/2^d/2):=by
   generalize M/2^d=t at*;omega
  have h5:M/2^(d+1)=M/2^d/2:=by rw[Nat.pow_succ,Nat.div_div_eq_div_mul]
  rw[h5,show(q+6000).toNat =(d+1)+(e+6000).toNat by omega,Nat.pow_add,<-Nat.mul_assoc,Nat.pow_succ]
  congr 1
  rw[<-Nat.mul_assoc,Nat.mul_comm (M/2^d/2),Nat.mul_assoc,Nat.mul_comm (M/2^d/2) 2,<-h4];exact h3
theorem Rn(h:aP f p mx one inf sg nan)(hs:s=0\/s=1)(hM:0<M)(e0:-5000<=e)(hr:aO p (1-mx) mx one inf mode s M e U z 0):
  0<z/\z<inf/\∀y,bP p mx one inf sg nan (sw s sg z) y->y.c=1/\y.s=s/\nv y.M y.e=nv M e:=by
 have hb:=h.bounds;obtain⟨P,hp,ho,hP⟩:=JE h;obtain⟨top,E,r,r2,hf,h1,h2,h3,h4,h5,hc⟩:=hr;have hc':top<=mx/\(r:Int)+one*(E-(1-mx))<inf/\z=r+one*(E-(1-mx))/\hf=0:=om;obtain⟨c1,c2,c3,c4⟩:=hc';have hh:aJ M e (E-p+1) U=0:=om;have hr':r=aW M e (E-p+1):=by rw[h4,c4,iM]
 have hq:0<=E-p+1+6000:=om;have hnv:=YV M e (E-p+1) om hq hh;have hlt:=iH M e (E-p+1) (P+1) om;rw[Nat.pow_succ]at hlt;have hge:E=1-mx\/one<=(r:Int):=by
  rcases h2 with⟨a,b⟩|⟨a,b⟩
  ·exact .inl b
  ·right;have:=rP M e (E-p+1) P hM om;omega
 have r0:0<r:=by
  rcases Nat.eq_zero_or_pos r with k|k
  ·have:=Ib M e (E-p+1) hM (by omega);omega
  ·exact k
 have hk0:0<=one*(E-(1-mx)):=Int.mul_nonneg om om;refine⟨om,om,fun y hy=>?_⟩;obtain⟨y1,y2⟩:=bP.bare h hs om om hy;obtain⟨_,q2,q3⟩:=YS h y2 r E om om hge c3 om;dsimp only at q2 q3;rw[hr',hnv]at q3;refine⟨?_,y1,q3⟩;rcases q2 with k|k
 ·exfalso;have:=(bQ h hy).1.nil om;rw[this]at q3;unfold nv at q3;rw[Nat.zero_mul]at q3;have:=Nat.mul_pos hM (Nat.pow_pos (n:=(e+6000).toNat) (show 0<2 by decide));omega
 ·exact k
theorem Dl(he:0<=e+6000)(hle:e<=g)(h:nv M e=nv N g):M=N*2^(g-e).toNat :=by
 unfold nv at h;rw[show(g+6000).toNat =(g-e).toNat +(e+6000).toNat by omega,Nat.pow_add,<-Nat.mul_assoc]at h;exact Nat.eq_of_mul_eq_mul_right (Nat.pow_pos de) h
theorem aO.nv(hM:0<M)(hN:0<N)(he:0<=e+6000)(hg:0<=g+6000)(h:nv M e=nv N g):aO p mn mx one inf mode sign M e U z fl↔aO p mn mx one inf mode sign N g U z fl:=by
 rcases Int.le_total e g with c|c
 ·have hM':=Dl he c h;have:=aO.scale (p:=p) (mn:=mn) (mx:=mx) (one:=one) (inf:=inf) (mode:=mode) (sign:=sign) (e:=g) (z:=z) (fl:=fl) (g-e).toNat hN;rw[<-hM',show g-((g-e).toNat :Int)=e by omega]at this;exact this
 ·have hN':=Dl hg c h.symm;have:=aO.scale (p:=p) (mn:=mn) (mx:=mx) (one:=one) (inf:=inf) (mode:=mode) (sign:=sign) (e:=e) (z:=z) (fl:=fl) (e-g).toNat hM;rw[<-hN',show e-((e-g).toNat :Int)=g by omega]at this;exact this.symm
theorem Xa{x:bZ}(hx:-5000<=x.e)(h:nv x.M x.e=nv N 0)(way:Int):aN way x=N/\fD x=U:=by
 rcases Int.lt_or_le x.e 0 with c|c
 ·have hM:=Dl om om h;have hk:(0-x.e).toNat ≠0:=om;have hh:aJ x.M x.e 0 U=0:=by
   rw[pO _ _ _ _ (by omega)];exact zq _ _ om (by rw[hM];exact Nat.mul_mod_left _ _)
  constructor
  ·unfold aN;rw[hh,iM];unfold aW;rw[if_neg (by omega)];have:=Nat.mul_div_cancel N (Nat.pow_pos (n:=(0-x.e).toNat) (show 0<2 by decide));rw[<-hM]at this;exact this
  ·unfold fD;rw[hh];rfl
 ·have hN:=Dl om c h.symm;rw[Int.sub_zero]at hN;exact⟨by rw[jG c,hN],vN c⟩
theorem aFR(h:aP f p mx one inf sg nan)(hM:0<M)(hn:(nb M:Int)<=p)(t0:1-mx<=(nb M:Int)+e-1)(t1:(nb M:Int)+e-1<=mx):∃z,∀mode s,aO p (1-mx) mx one inf mode s M e U z 0:=by
 have hb:=h.bounds;obtain⟨P,hp,ho,hP⟩:=JE h;have oP:inf=one*(2*mx+1):=by rcases h with⟨rfl,rfl,rfl,rfl,rfl,rfl,rfl⟩|⟨rfl,rfl,rfl,rfl,rfl,rfl,rfl⟩<;>decide
 obtain⟨q,hq⟩:∃q:Int,(nb M:Int)+e-1-p+1=q:=⟨_,rfl⟩;have hh:aJ M e q U=0:=pK _ _ _ om;have hlt:=iH M e q (P+1) om;rw[Nat.pow_succ]at hlt;have hle:one*((nb M:Int)+e-1-(1-mx))<=one*(2*mx-1):=Int.mul_le_mul_of_nonneg_left om om;have h3:one*(2*mx+1)=one*(2*mx-1)+2*one:=by rw[show 2*mx+1=(2*mx-1)+2 by omega,Int.mul_add];omega
 refine⟨(aW M e q:Nat)+one*((nb M:Int)+e-1-(1-mx)),fun mode s=>?_⟩;exact⟨(nb M:Int)+e-1,(nb M:Int)+e-1,aW M e q,_,0,rfl,.inr ⟨om,rfl⟩,by rw[hq,hh],by rw[hq,iM],rfl,.inr (.inr ⟨om,om,rfl,.inl ⟨rfl,rfl⟩⟩)⟩
theorem aC1{P:Prop}(h:P:=by
 go_enter func58,ntmps58;go_wp2_with (first
  |(go_at_call 94;refine kw (HF _) ?_)
  |(go_at_call 57;refine ku (HU _) fun w1 ak=>?_;have DK:=ak.aZ w;have hz0:=au DK.1)
  |(go_at_call 95;refine ku (HQ _) fun va aS=>?_;have WQ:=aS.aZ w;have:=aS.dX w1))
 exact dA (by simp[results,Tryz.results58,go_sem,WQ])):P:=h
theorem aC6{P:Prop}(h:P:=by
 go_enter func58,ntmps58;go_upto_region 10 with(first
  |(go_at_call 94;refine kw (HF _) ?_)
  |(go_at_call 57;refine ku (HU _) fun w1 ak=>?_;have DK:=ak.aZ w;have hz0:=au DK.1)
  |(go_at_call 95;refine ku (HQ _) fun va aS=>?_;have:=aS.aZ w;have:=aS.dX w1)
  |(go_at_call 123;refine(HN _).mono ?_;rintro e w3 ⟨b3,k3,c3,hb3,rfl,aF⟩;have:=aF.aZ w;have:=aF.dX w1)
  |(go_at_call 122;with_reducible refine(HW.out _ _ _ _ hb3).mono ?_;rintro e w4 ⟨b4,k4,c4,hb4,rfl,aI⟩;have Jl:=aI.aZ w;have:=aI.dX w1;have hz4:=au Jl.1;have hk4:=Oc hb4 hC)
  |(go_at_call 84;refine ku (HZ _) fun w5 aT=>?_;have iw:=aT.aZ w;have:=aT.dX w1;have Q_:=au iw.1))
 obtain⟨w6,hw6⟩:∃w6,w5.alloc (.cells #[.int .u64 z,J 0] 56)=w6:=⟨_,rfl⟩;have b_:Gr w5 w6:=by rw[<-hw6];exact(Gr.refl _).alloc _ _
 have x0:w6.cell? ⟨w5.heap.size,0,none⟩=some (.int .u64 z):=by rw[<-hw6];simp[go_sem]
 have x1:w6.cell? ⟨w5.heap.size,1,none⟩=some (J 0):=by rw[<-hw6];simp[go_sem]
 have xz0:bK w6 w5.heap.size 0:=by rw[<-hw6];simp[go_sem]
 have xz1:bK w6 w5.heap.size 1:=by rw[<-hw6];simp[go_sem]
 have hz6:w5.heap.size<w6.heap.size:=by rw[<-hw6];simp
 rw[hw6];clear hw6;have:=b_.aZ w;have:=b_.dX w1;have hb6:aC 70005 w6 (aB b4 k4 c4) C:=aC.gb hb4 (aT.gb.trans b_.gb);have hgw:Gb w w6:=Gb.g;go_wp2_with (go_at_call 85;with_reducible refine ku (HR.out _ _ hb6) fun w7 fQ=>?_;have rr0:=fQ.aZ w;have:=fQ.aZ w5;have hz7:=au rr0.1);exact dA (by simp[results,Tryz.results58,go_sem,rr0])):P:=h
theorem Xh{P:Prop}(h:P:=by
 go_enter func58,ntmps58;go_upto_region 10 with(first
  |(go_at_call 94;refine kw (HF _) ?_)
  |(go_at_call 57;refine ku (HU _) fun w1 ak=>?_;have DK:=ak.aZ w;have hz0:=au DK.1)
  |(go_at_call 95;refine ku (HQ _) fun va aS=>?_;have:=aS.aZ w;have:=aS.dX w1)
  |(go_at_call 123;refine(HN _).mono ?_;rintro e w3 ⟨b3,k3,c3,hb3,rfl,aF⟩;have:=aF.aZ w;have:=aF.dX w1)
  |(go_at_call 122;with_reducible refine(HW.out _ _ _ _ hb3).mono ?_;rintro e w4 ⟨b4,k4,c4,hb4,rfl,aI⟩;have Jl:=aI.aZ w;have:=aI.dX w1;have hz4:=au Jl.1;have hk4:=aAi hb4)
  |(go_at_call 84;refine ku (HZ _) fun w5 aT=>?_;have iw:=aT.aZ w;have:=aT.dX w1;have Q_:=au iw.1))
 obtain⟨w6,hw6⟩:∃w6,w5.alloc (.cells #[.int .u64 z,J 0] 56)=w6:=⟨_,rfl⟩;have b_:Gr w5 w6:=by rw[<-hw6];exact(Gr.refl _).alloc _ _
 have x0:w6.cell? ⟨w5.heap.size,0,none⟩=some (.int .u64 z):=by rw[<-hw6];simp[go_sem]
 have x1:w6.cell? ⟨w5.heap.size,1,none⟩=some (J 0):=by rw[<-hw6];simp[go_sem]
 have xz0:bK w6 w5.heap.size 0:=by rw[<-hw6];simp[go_sem]
 have xz1:bK w6 w5.heap.size 1:=by rw[<-hw6];simp[go_sem]
 have hz6:w5.heap.size<w6.heap.size:=by rw[<-hw6];simp
 rw[hw6];clear hw6;have yr0:=b_.aZ w;have:=b_.dX w1;have hb6:aC 70005 w6 (aB b4 k4 c4) 0:=aC.gb hb4 (aT.gb.trans b_.gb);have hgw:Gb w w6:=Gb.g;go_wp2;exact dA (by simp[results,Tryz.results58,go_sem,yr0])):P:=h
theorem Jq(mode s e:Int)(M L C:Nat)(hf:Int)(t:Bool)(ht:(hf==0)=t)(v:Value)(w:World)
  (lU:Hid (∀w',Gb w w'->CT 150 #[Y #[J s,v,J e,X U],J 0] w' fun x w''=>∃b k c,aC 70002 w'' (aB b k c) L/\x=O (V #[aB b k c,J hf])/\Gb w' w''))
  (HCh:Hid (∀v' w',aC 70002 w' v' L->CT 151 #[J mode,J s,v',J hf] w' (qh 70005 C w'))) (b0 k0 c0:Nat) (hv:v=aB b0 k0 c0):
  CT 122 #[J mode,Y #[J s,v,J e,X U]] w fun x w'=>∃b k c,aC 70005 w' (aB b k c) C/\x=O (V #[aB b k c,X t])/\Gb w w':=by
 subst hv;go_enter func122,ntmps122;go_wp2_with (first
  |(go_at_call 150;refine(lU _ Gb.g).mono ?_;rintro x n1 ⟨b1,k1,q1,hb1,rfl,mV⟩;have:=mV.C10 w)
  |(go_at_call 151;with_reducible refine(HCh.out _ _ hb1).mono ?_;rintro x n2 ⟨b2,k2,q2,hb2,rfl,EY⟩))
 go_returns;exact⟨_,_,_,hb2,rfl,Gb.g⟩
theorem Ae(f mode a z fl:Int)(ex:Bool)(HF:kW f mode a U)(HL:nH f z fl)(w:World):
  xP f mode a ex w z fl:=by
 go_enter func58,ntmps58;go_wp2_with (first
  |(go_at_call 94;refine kw (HF _) ?_)
  |(go_at_call 83;refine ku (HL _) fun w9 aV=>?_;have iw:=aV.aZ w))
 exact dA (by simp[results,Tryz.results58,go_sem,iw])
theorem UK(f mode a c s x g z fl:Int)(b ex:Bool)(HF:kW f mode a D)(HU:bC f a c s x g)(HQ:bF c s x g D)(e4:(c==4)=b)(HL:oI f b z fl)(w:World):
  xP f mode a ex w z fl:=by
 go_enter func58,ntmps58;go_wp2_with (first
  |(go_at_call 94;refine kw (HF _) ?_)
  |(go_at_call 57;refine ku (HU _) fun w1 ak=>?_;have DK:=ak.aZ w;have hz0:=au DK.1)
  |(go_at_call 95;refine ku (HQ _) fun va aS=>?_;have:=aS.aZ w;have:=aS.dX w1)
  |(go_at_call 96;refine ku (HL _) fun w9 aV=>?_;have iw:=aV.aZ w))
 exact dA (by simp[results,Tryz.results58,go_sem,iw])
theorem aBd(f mode a c s x g:Int)(ex:Bool)(HF:kW f mode a D)(HU:bC f a c s x g)(HQ:bF c s x g U)(e1:¬c=1)(w:World):
  QB 58 #[J f,J mode,.int .u64 a,X ex] w (aK a 0):=by
 exact aC1
theorem aBb(f mode a c s x g:Int)(ex:Bool)(HF:kW f mode a D)(HU:bC f a c s x g)(HQ:bF c s x g U)(e1:c=1)(e2:decide (0<=x)=D)(w:World):
  QB 58 #[J f,J mode,.int .u64 a,X ex] w (aK a 0):=by
 subst e1;exact aC1
theorem aAi(h:aC K w (aB b k c) 0):((k:Nat):Int)=0:=by
 obtain⟨n,hn,hb⟩:=h;obtain⟨b',cap,e,_⟩:=hb.shape;have:=hb.none rfl;injection e with _ e2 _;omega
theorem Oc(h:aC K w (aB b k c) N)(hN:0<N):0<k:=by
 obtain⟨n,hn,hb⟩:=h;obtain⟨b',cap,e,_⟩:=hb.shape;have h2:=hb.1.iff;injection e with _ e2 _;have:n≠0:=fun h=>by have:=h2.1 h;omega
 omega
theorem Ye(f mode a c s x g z:Int)(M C:Nat)(ex wh:Bool)(hx:ex=U)(hC:C=0)(HF:kW f mode a D)(HU:bC f a c s x g)(HQ:bF c s x g U)(e1:c=1)(e2:decide (0<=x)=U)(HN:Hid (∀w,CT 123 #[eH c s x g] w fun e w'=>∃b k cc,aC 2 w' (aB b k cc) M/\e=O (Y #[J s,aB b k cc,J x,X U])/\Gb w w'))(HW:Hid (∀b k c w,aC 2 w (aB b k c) M->CT 122 #[J mode,Y #[J s,aB b k c,J x,X U]] w fun e w'=>∃b k c,aC 70005 w' (aB b k c) C/\e=O (V #[aB b k c,X wh])/\Gb w w'))(HZ:m_ f s z 0)(w:World):
  xP f mode a ex w z 0:=by
 subst e1 hC;obtain rfl:=hx;exact Xh
theorem Yb(f mode a c s x g z y:Int)(M C:Nat)(ex wh:Bool)(hx:ex=U)(hC:0<C)(HF:kW f mode a D)(HU:bC f a c s x g)(HQ:bF c s x g U)(e1:c=1)(e2:decide (0<=x)=U)(HN:Hid (∀w,CT 123 #[eH c s x g] w fun e w'=>∃b k cc,aC 2 w' (aB b k cc) M/\e=O (Y #[J s,aB b k cc,J x,X U])/\Gb w w'))(HW:Hid (∀b k c w,aC 2 w (aB b k c) M->CT 122 #[J mode,Y #[J s,aB b k c,J x,X U]] w fun e w'=>∃b k c,aC 70005 w' (aB b k c) C/\e=O (V #[aB b k c,X wh])/\Gb w w'))(HZ:m_ f s z 0)(HR:Hid (∀v w,aC 70005 w v C->QB 85 #[J f,J 0,Y #[J s,v,J 0,X U]] w (aK y 0)))(w:World):
  xP f mode a ex w y 0:=by
 subst e1;obtain rfl:=hx;exact aC6
theorem Yd(f mode a c s x g z:Int)(M C:Nat)(ex wh:Bool)(hx:ex=D/\wh=D)(hC:C=0)(HF:kW f mode a D)(HU:bC f a c s x g)(HQ:bF c s x g U)(e1:c=1)(e2:decide (0<=x)=U)(HN:Hid (∀w,CT 123 #[eH c s x g] w fun e w'=>∃b k cc,aC 2 w' (aB b k cc) M/\e=O (Y #[J s,aB b k cc,J x,X U])/\Gb w w'))(HW:Hid (∀b k c w,aC 2 w (aB b k c) M->CT 122 #[J mode,Y #[J s,aB b k c,J x,X U]] w fun e w'=>∃b k c,aC 70005 w' (aB b k c) C/\e=O (V #[aB b k c,X wh])/\Gb w w'))(HZ:m_ f s z 0)(w:World):
  xP f mode a ex w z 0:=by
 subst e1 hC;obtain⟨rfl,rfl⟩:=hx;exact Xh
theorem Ya(f mode a c s x g z y:Int)(M C:Nat)(ex wh:Bool)(hx:ex=D/\wh=D)(hC:0<C)(HF:kW f mode a D)(HU:bC f a c s x g)(HQ:bF c s x g U)(e1:c=1)(e2:decide (0<=x)=U)(HN:Hid (∀w,CT 123 #[eH c s x g] w fun e w'=>∃b k cc,aC 2 w' (aB b k cc) M/\e=O (Y #[J s,aB b k cc,J x,X U])/\Gb w w'))(HW:Hid (∀b k c w,aC 2 w (aB b k c) M->CT 122 #[J mode,Y #[J s,aB b k c,J x,X U]] w fun e w'=>∃b k c,aC 70005 w' (aB b k c) C/\e=O (V #[aB b k c,X wh])/\Gb w w'))(HZ:m_ f s z 0)(HR:Hid (∀v w,aC 70005 w v C->QB 85 #[J f,J 0,Y #[J s,v,J 0,X U]] w (aK y 0)))(w:World):
  xP f mode a ex w y 0:=by
 subst e1;obtain⟨rfl,rfl⟩:=hx;exact aC6
theorem Yc(f mode a c s x g z:Int)(M C:Nat)(ex wh:Bool)(hx:ex=D/\wh=U)(hC:C=0)(HF:kW f mode a D)(HU:bC f a c s x g)(HQ:bF c s x g U)(e1:c=1)(e2:decide (0<=x)=U)(HN:Hid (∀w,CT 123 #[eH c s x g] w fun e w'=>∃b k cc,aC 2 w' (aB b k cc) M/\e=O (Y #[J s,aB b k cc,J x,X U])/\Gb w w'))(HW:Hid (∀b k c w,aC 2 w (aB b k c) M->CT 122 #[J mode,Y #[J s,aB b k c,J x,X U]] w fun e w'=>∃b k c,aC 70005 w' (aB b k c) C/\e=O (V #[aB b k c,X wh])/\Gb w w'))(HZ:m_ f s z 0)(w:World):
  xP f mode a ex w z 16:=by
 subst e1 hC;obtain⟨rfl,rfl⟩:=hx;exact Xh
theorem X_(f mode a c s x g z y:Int)(M C:Nat)(ex wh:Bool)(hx:ex=D/\wh=U)(hC:0<C)(HF:kW f mode a D)(HU:bC f a c s x g)(HQ:bF c s x g U)(e1:c=1)(e2:decide (0<=x)=U)(HN:Hid (∀w,CT 123 #[eH c s x g] w fun e w'=>∃b k cc,aC 2 w' (aB b k cc) M/\e=O (Y #[J s,aB b k cc,J x,X U])/\Gb w w'))(HW:Hid (∀b k c w,aC 2 w (aB b k c) M->CT 122 #[J mode,Y #[J s,aB b k c,J x,X U]] w fun e w'=>∃b k c,aC 70005 w' (aB b k c) C/\e=O (V #[aB b k c,X wh])/\Gb w w'))(HZ:m_ f s z 0)(HR:Hid (∀v w,aC 70005 w v C->QB 85 #[J f,J 0,Y #[J s,v,J 0,X U]] w (aK y 0)))(w:World):
  xP f mode a ex w y 16:=by
 subst e1;obtain⟨rfl,rfl⟩:=hx;go_enter func58,ntmps58;go_upto_region 10 with(first
  |(go_at_call 94;refine kw (HF _) ?_)
  |(go_at_call 57;refine ku (HU _) fun w1 ak=>?_;have DK:=ak.aZ w;have hz0:=au DK.1)
  |(go_at_call 95;refine ku (HQ _) fun va aS=>?_;have:=aS.aZ w;have:=aS.dX w1)
  |(go_at_call 123;refine(HN _).mono ?_;rintro e w3 ⟨b3,k3,c3,hb3,rfl,aF⟩;have:=aF.aZ w;have:=aF.dX w1)
  |(go_at_call 122;with_reducible refine(HW.out _ _ _ _ hb3).mono ?_;rintro e w4 ⟨b4,k4,c4,hb4,rfl,aI⟩;have Jl:=aI.aZ w;have:=aI.dX w1;have hz4:=au Jl.1;have hk4:=Oc hb4 hC)
  |(go_at_call 84;refine ku (HZ _) fun w5 aT=>?_;have iw:=aT.aZ w;have:=aT.dX w1;have Q_:=au iw.1))
 obtain⟨w6,hw6⟩:∃w6,w5.alloc (.cells #[.int .u64 z,J 0] 56)=w6:=⟨_,rfl⟩;have b_:Gr w5 w6:=by rw[<-hw6];exact(Gr.refl _).alloc _ _
 have x0:w6.cell? ⟨w5.heap.size,0,none⟩=some (.int .u64 z):=by rw[<-hw6];simp[go_sem]
 have x1:w6.cell? ⟨w5.heap.size,1,none⟩=some (J 0):=by rw[<-hw6];simp[go_sem]
 have xz0:bK w6 w5.heap.size 0:=by rw[<-hw6];simp[go_sem]
 have xz1:bK w6 w5.heap.size 1:=by rw[<-hw6];simp[go_sem]
 have hz6:w5.heap.size<w6.heap.size:=by rw[<-hw6];simp
 rw[hw6];clear hw6;have:=b_.aZ w;have:=b_.dX w1;have hb6:aC 70005 w6 (aB b4 k4 c4) C:=aC.gb hb4 (aT.gb.trans b_.gb);have hgw:Gb w w6:=Gb.g;go_upto_region 12 with(go_at_call 85;with_reducible refine ku (HR.out _ _ hb6) fun w7 fQ=>?_;have rr0:=fQ.aZ w;have:=fQ.aZ w5;have hz7:=au rr0.1);obtain⟨w8,hw8⟩:∃w8,(w7.setCell ⟨w5.heap.size,0,none⟩ (.int .u64 y)).setCell ⟨w5.heap.size,1,none⟩ (J 0)=w8:=⟨_,rfl⟩;have aFb:Gb w w7:=Gb.g;have hlt:w.heap.size<=w5.heap.size:=om;have aKy:Gb w w8:=by
  rw[<-hw8];exact(aFb.setCell (a:=⟨w5.heap.size,0,none⟩) hlt _).setCell (a:=⟨w5.heap.size,1,none⟩) hlt _
 have s0:w8.cell? ⟨w5.heap.size,0,none⟩=some (.int .u64 y):=by rw[<-hw8];exact kh
 have s1:w8.cell? ⟨w5.heap.size,1,none⟩=some (J 0):=by rw[<-hw8];exact kh
 have sz1:bK w8 w5.heap.size 1:=by rw[<-hw8];exact kh
 have sr0:w8.cell? ⟨w.heap.size,0,none⟩=some (.int .u64 0):=by rw[<-hw8];exact kh
 have sr1:w8.cell? ⟨w.heap.size,1,none⟩=some (J 0):=by rw[<-hw8];exact kh
 have aJ6:bK w8 w.heap.size 0:=by rw[<-hw8];exact kh
 have aJ5:bK w8 w.heap.size 1:=by rw[<-hw8];exact kh
 rw[hw8];clear hw8;go_wp2;exact dA (by simp[results,Tryz.results58,go_sem,sr0,sr1])
theorem aC0{P:Prop}(h:P:=by
 go_enter func130,ntmps130;go_wp2_with (go_at_call 152;refine ku (HW _ Gb.g) fun w1 ak=>?_);go_returns;exact⟨rfl,Gb.g⟩):P:=h
theorem aC2{P:Prop}(h:P:=by
 go_enter func63,ntmps63;go_wp2_with (first
  |(go_at_call 129;refine kw (HK _) ?_)
  |(go_at_call 82;refine kw (HY _) ?_)
  |(go_at_call 117;refine kw (HF _) ?_)
  |(go_at_call 57;refine ku (HU _) fun w1 ak=>?_;have DK:=ak.aZ w;have hz0:=au DK.1)
  |(go_at_call 95;refine ku (HQ _) fun va aS=>?_;have:=aS.aZ w;have:=aS.dX w1))
 exact aC4):P:=h
theorem aC4{P:Prop}(h:P:=by
 go_region_held3 (fun w'=>aj w' w1.heap.size 1 (J s))
  (exact kZ)
  (first
   |(go_at_call 131;refine(HM _).mono ?_;rintro e n8 ⟨b8,k8,c8,hb8,rfl,aGS⟩;have:=aGS.aZ w)
   |(go_at_call 130;refine ku (HWe _ _ _ _ (aC.gb hb8 Gb.g)) fun n9 aGR=>?_;have iw:=aGR.aZ w))
 all_goals go_wp2
 all_goals
  exact dA (by simp[results,Tryz.results63,go_sem,iw])):P:=h
theorem aC5{P:Prop}(h:P:=by
 subst hwh;have e2':(c==2)=U:=by simp[e2]
 go_enter func63,ntmps63;go_wp2_with (first
  |(go_at_call 129;refine kw (HK _) ?_)
  |(go_at_call 82;refine kw (HY _) ?_)
  |(go_at_call 117;refine kw (HF _) ?_)
  |(go_at_call 57;refine ku (HU _) fun w1 ak=>?_;have DK:=ak.aZ w;have hz0:=au DK.1)
  |(go_at_call 95;refine ku (HQ _) fun va aS=>?_;have:=aS.aZ w;have:=aS.dX w1)
  |(go_at_call 123;refine(HN _).mono ?_;rintro e w3 ⟨b3,k3,c3,hb3,rfl,aF⟩;have:=aF.aZ w;have:=aF.dX w1)
  |(go_at_call 122;with_reducible refine(WX.out _ _ _ _ hb3).mono ?_;rintro e w4 ⟨b4,k4,c4,hb4,rfl,aI⟩;have:=aI.aZ w;have:=aI.dX w1)
  |(go_at_call 131;refine(HM _).mono ?_;rintro e w5 ⟨b5,k5,c5,hb5,rfl,aT⟩;have:=aT.aZ w;have:=aT.dX w1)
  |(go_at_call 102;with_reducible refine ku (HC.out _ _ _ (aC.gb hb4 aT) hb5) fun w6 b_=>?_;have:=b_.aZ w;have:=b_.dX w1)
  |(go_at_call 130;refine ku (HWw _ _ _ _ (aC.gb hb4 (aT.trans b_))) fun w7 fQ=>?_;have iw:=fQ.aZ w))
 exact dA (by simp[results,Tryz.results63,go_sem,iw])):P:=h
theorem BP(s v r:Int)(hr:s=1/\IntKind.u64.wrap (0-v)=r/\IntKind.u64.wrap (-v)=r\/s=0/\v=r)(b k c:Nat)(HW:Hid (∀w',Gb w w'->QB 152 #[aB b k c] w' (.int .u64 v))):
  rX s b k c w r:=by
 rcases hr with⟨rfl,h1,h2⟩|⟨rfl,rfl⟩
 ·exact aC0
 ·exact aC0
theorem LV(f mode kind a:Int)(S:Bool)(HK:kX kind 0 S)(w:World):
  rV f mode kind a w 0 1:=by
 go_enter func63,ntmps63;go_wp2_with (first
  |(go_at_call 129;refine kw (HK _) ?_))
 go_returns;exact⟨rfl,Gb.g⟩
theorem LU(f mode kind a B:Int)(S:Bool)(B0:(B==0)=U)(HK:kX kind B S)(HY:KW 82 #[J mode] (X U))(w:World):
  rV f mode kind a w 0 1:=by
 go_enter func63,ntmps63;go_wp2_with (first
  |(go_at_call 129;refine kw (HK _) ?_)
  |(go_at_call 82;refine kw (HY _) ?_))
 go_returns;exact⟨rfl,Gb.g⟩
theorem BI(f mode kind a B:Int)(S:Bool)(B0:(B==0)=U)(HK:kX kind B S)(HY:KW 82 #[J mode] (X D))(HF:KW 117 #[J f,.int .u64 a] (X U))(w:World):
  rV f mode kind a w 0 1:=by
 go_enter func63,ntmps63;go_wp2_with (first
  |(go_at_call 129;refine kw (HK _) ?_)
  |(go_at_call 82;refine kw (HY _) ?_)
  |(go_at_call 117;refine kw (HF _) ?_))
 go_returns;exact⟨rfl,Gb.g⟩
theorem Ec(f mode kind a B c s x g z:Int)(S:Bool)(L0:Nat)(B0:(B==0)=U)(HK:kX kind B S)(HY:KW 82 #[J mode] (X D))(HF:KW 117 #[J f,.int .u64 a] (X D))(HU:bC f a c s x g)(HQ:bF c s x g D)(WZ:Hid (∀w,CT 131 #[J kind,J 0] w (qh 20 L0 w)))(HW0:Hid (∀b k c w,aC 20 w (aB b k c) L0->rX 0 b k c w z))(w:World):
  rV f mode kind a w z 1:=by
 go_enter func63,ntmps63;go_wp2_with (first
  |(go_at_call 129;refine kw (HK _) ?_)
  |(go_at_call 82;refine kw (HY _) ?_)
  |(go_at_call 117;refine kw (HF _) ?_)
  |(go_at_call 57;refine ku (HU _) fun w1 ak=>?_;have DK:=ak.aZ w;have hz0:=au DK.1)
  |(go_at_call 95;refine ku (HQ _) fun va aS=>?_;have:=aS.aZ w;have:=aS.dX w1)
  |(go_at_call 131;refine(WZ _).mono ?_;rintro e n1 ⟨b1,k1,c1,hb1,rfl,mV⟩;have:=mV.aZ w)
  |(go_at_call 130;refine ku (HW0 _ _ _ _ hb1) fun n2 EY=>?_;have iw:=EY.aZ w))
 exact dA (by simp[results,Tryz.results63,go_sem,iw])
theorem Ed(f mode kind a B c s x g z:Int)(S:Bool)(L:Nat)(B0:(B==0)=U)(HK:kX kind B S)(HY:KW 82 #[J mode] (X D))(HF:KW 117 #[J f,.int .u64 a] (X D))(HU:bC f a c s x g)(HQ:bF c s x g U)(e2:c=2)(HM:Hid (∀w,CT 131 #[J kind,J s] w (qh 20 L w)))(HWe:Hid (∀b k c w,aC 20 w (aB b k c) L->rX s b k c w z))(w:World):
  rV f mode kind a w z 1:=by
 subst e2;exact aC2
theorem Ee(f mode kind a B c s x g z:Int)(S:Bool)(L:Nat)(B0:(B==0)=U)(HK:kX kind B S)(HY:KW 82 #[J mode] (X D))(HF:KW 117 #[J f,.int .u64 a] (X D))(HU:bC f a c s x g)(HQ:bF c s x g U)(e2:¬c=2)(e3:decide (200<x)=D)(HM:Hid (∀w,CT 131 #[J kind,J s] w (qh 20 L w)))(HWe:Hid (∀b k c w,aC 20 w (aB b k c) L->rX s b k c w z))(w:World):
  rV f mode kind a w z 1:=by
 exact aC2
theorem Ea(f mode kind a B c s x g z d:Int)(S wh:Bool)(M C L:Nat)(hwh:wh=D)(B0:(B==0)=U)(HK:kX kind B S)(HY:KW 82 #[J mode] (X D))(HF:KW 117 #[J f,.int .u64 a] (X D))(HU:bC f a c s x g)(HQ:bF c s x g U)(e2:¬c=2)(e3:decide (200<x)=U)(HN:Hid (∀w,CT 123 #[eH c s x g] w fun e w'=>∃b k cc,aC 2 w' (aB b k cc) M/\e=O (Y #[J s,aB b k cc,J x,X U])/\Gb w w'))(WX:Hid (∀b k c w,aC 2 w (aB b k c) M->CT 122 #[J mode,Y #[J s,aB b k c,J x,X U]] w fun e w'=>∃b k c,aC 70005 w' (aB b k c) C/\e=O (V #[aB b k c,X wh])/\Gb w w'))(HM:Hid (∀w,CT 131 #[J kind,J s] w (qh 20 L w)))(HC:Hid (∀v v' w,aC 70005 w v C->aC 20 w v' L->QB 102 #[v,v'] w (J d)))(hd:decide (d<=0)=D)(HWw:Hid (∀b k c w,aC 70005 w (aB b k c) C->rX s b k c w z))(w:World):
  rV f mode kind a w z 0:=by
 exact aC5
theorem D_(f mode kind a B c s x g z d:Int)(S wh:Bool)(M C L:Nat)(hwh:wh=U)(B0:(B==0)=U)(HK:kX kind B S)(HY:KW 82 #[J mode] (X D))(HF:KW 117 #[J f,.int .u64 a] (X D))(HU:bC f a c s x g)(HQ:bF c s x g U)(e2:¬c=2)(e3:decide (200<x)=U)(HN:Hid (∀w,CT 123 #[eH c s x g] w fun e w'=>∃b k cc,aC 2 w' (aB b k cc) M/\e=O (Y #[J s,aB b k cc,J x,X U])/\Gb w w'))(WX:Hid (∀b k c w,aC 2 w (aB b k c) M->CT 122 #[J mode,Y #[J s,aB b k c,J x,X U]] w fun e w'=>∃b k c,aC 70005 w' (aB b k c) C/\e=O (V #[aB b k c,X wh])/\Gb w w'))(HM:Hid (∀w,CT 131 #[J kind,J s] w (qh 20 L w)))(HC:Hid (∀v v' w,aC 70005 w v C->aC 20 w v' L->QB 102 #[v,v'] w (J d)))(hd:decide (d<=0)=D)(HWw:Hid (∀b k c w,aC 70005 w (aB b k c) C->rX s b k c w z))(w:World):
  rV f mode kind a w z 16:=by
 exact aC5
theorem D9(f mode kind a B c s x g z d:Int)(S wh:Bool)(M C L:Nat)(B0:(B==0)=U)(HK:kX kind B S)(HY:KW 82 #[J mode] (X D))(HF:KW 117 #[J f,.int .u64 a] (X D))(HU:bC f a c s x g)(HQ:bF c s x g U)(e2:¬c=2)(e3:decide (200<x)=U)(HN:Hid (∀w,CT 123 #[eH c s x g] w fun e w'=>∃b k cc,aC 2 w' (aB b k cc) M/\e=O (Y #[J s,aB b k cc,J x,X U])/\Gb w w'))(WX:Hid (∀b k c w,aC 2 w (aB b k c) M->CT 122 #[J mode,Y #[J s,aB b k c,J x,X U]] w fun e w'=>∃b k c,aC 70005 w' (aB b k c) C/\e=O (V #[aB b k c,X wh])/\Gb w w'))(HM:Hid (∀w,CT 131 #[J kind,J s] w (qh 20 L w)))(HC:Hid (∀v v' w,aC 70005 w v C->aC 20 w v' L->QB 102 #[v,v'] w (J d)))(hd:decide (d<=0)=U)(HWe:Hid (∀b k c w,aC 20 w (aB b k c) L->rX s b k c w z))(w:World):
  rV f mode kind a w z 1:=by
 have e2':(c==2)=U:=by simp[e2]
 go_enter func63,ntmps63;go_wp2_with (first
  |(go_at_call 129;refine kw (HK _) ?_)
  |(go_at_call 82;refine kw (HY _) ?_)
  |(go_at_call 117;refine kw (HF _) ?_)
  |(go_at_call 57;refine ku (HU _) fun w1 ak=>?_;have DK:=ak.aZ w;have hz0:=au DK.1)
  |(go_at_call 95;refine ku (HQ _) fun va aS=>?_;have:=aS.aZ w;have:=aS.dX w1)
  |(go_at_call 123;refine(HN _).mono ?_;rintro e w3 ⟨b3,k3,c3,hb3,rfl,aF⟩;have:=aF.aZ w;have:=aF.dX w1)
  |(go_at_call 122;with_reducible refine(WX.out _ _ _ _ hb3).mono ?_;rintro e w4 ⟨b4,k4,c4,hb4,rfl,aI⟩;have:=aI.aZ w;have:=aI.dX w1)
  |(go_at_call 131;refine(HM _).mono ?_;rintro e w5 ⟨b5,k5,c5,hb5,rfl,aT⟩;have:=aT.aZ w;have:=aT.dX w1)
  |(go_at_call 102;with_reducible refine ku (HC.out _ _ _ (aC.gb hb4 aT) hb5) fun w6 b_=>?_;have:=b_.aZ w;have:=b_.dX w1))
 exact aC4
