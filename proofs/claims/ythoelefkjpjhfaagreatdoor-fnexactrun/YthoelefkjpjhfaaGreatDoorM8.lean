import Derived.Test.YthoelefkjpjhfaaGreatDoorK5
set_option linter.all false
set_option maxRecDepth 1000000
set_option maxHeartbeats 40000000
open Bool renaming false → U, true → D
open Go.Proofs.YthoelefkjpjhfaaGreatDoor renaming vI → J
open Go.Value renaming agg → Y, bool → X, tuple → V
open Go.Ending renaming returned → O
open Go.Proofs.Tryz
namespace Go.Proofs.YthoelefkjpjhfaaGreatDoor
open Go.RowKit
variable{f p mx aI sg nan a s e fl v aj z g r r' oP mn aJ:Int}{N M K b k c S I:Nat}{w:World}{args:Array Value}
def aKD{P:Prop}(h:P:=by
 go_enter func134,ntmps134;go_wp2_with (first|(go_at_call 131;refine kw (HK _) ?_)|(go_at_call 132;refine(HO _).mono ?_;rintro e n1 ⟨b1,k1,q1,gU,rfl,mZ⟩)|(go_at_call 150;with_reducible refine(HS.out _ _ gU).mono ?_;rintro e n2 ⟨b2,k2,q2,lC,rfl,zi⟩)|(go_at_call 155;with_reducible refine(HB.out _ _ _ (aH.gb lC mZ) gU).mono ?_;rintro e n4 ⟨b4,k4,q4,pz,rfl,ig⟩))
 go_returns;exact⟨_,_,_,pz,rfl,Gb.g⟩):P:=h
attribute [local go_sem] aA dB
def rQ(aF:Int):Int:=if aF=0\/aF=2 then 32 else if aF=1\/aF=3 then 64 else 0
def BL(aF:Int):Bool:=decide (aF=0\/aF=1)
def qj(aF:Int)(w:World):QW 131 #[J aF] w (V #[J (rQ aF),X (BL aF)]):=by
 rcases(om:aF=0\/aF=1\/aF=2\/aF=3\/(aF≠0/\aF≠1/\aF≠2/\aF≠3))with rfl|rfl|rfl|rfl|⟨c0,c1,c2,c3⟩
 case inr.inr.inr.inr=>
  have e0:(aF==0)=U:=by simp[c0]
  have e1:(aF==1)=U:=by simp[c1]
  have e2:(aF==2)=U:=by simp[c2]
  have e3:(aF==3)=U:=by simp[c3]
  have h1:rQ aF=0:=by simp[rQ,c0,c1,c2,c3]
  have h2:BL aF=U:=by simp[BL,c0,c1]
  rw[h1,h2];go_enter func131,ntmps131;go_wp2;go_returns;exact⟨rfl,rfl⟩
 all_goals
  go_enter func131,ntmps131;go_wp2;go_returns;exact⟨rfl,rfl⟩
def vX(aF s B t:Int)(S:Bool)(T:Nat)(hs:s=0\/s=1/\S=D)(hB:(if S then B-1 else B)=t)(B0:0<=B)(B1:B<=64)(t0:0<=t)(hT:T=2^t.toNat)
  (HK:pI aF B S) (w:World):
  CT 134 #[J aF,J s] w (sV 20 (if s=1 then T else T-1) w):=by
 have T0:1<=T:=by rw[hT];exact Nat.pow_pos de
 have t64:t<=64:=by split at hB<;>omega
 have HO:Hid (∀w,CT 132 #[.int .u64 1] w (sV 2 1 w)):=λw=>dY (gY 1 om w);have HS:Hid (∀v w,aH 2 w v 1->CT 150 #[v,J t] w (sV 20 T w)):=λv w ⟨n,a1,a2⟩=>by
  obtain⟨m,rfl⟩:=Int.eq_ofNat_of_zero_le t0;rw[Int.toNat_natCast]at hT;rw[hT,<-Nat.one_mul (2^m)];exact dY ((gX a2 om m om).mono (λe w' ⟨v,k,c1,c2,c3,c4⟩=>⟨v,k,c1,c2,om,c4⟩))
 have HB:Hid (∀v v' w,aH 20 w v T->aH 2 w v' 1->CT 155 #[v,v'] w (sV 20 (T-1) w)):=λv v' w ⟨n,a1,a2⟩ ⟨n',b1,b2⟩=>dY ((nM a2 om b2 om om).mono (λe w' ⟨v,k,c1,c2,c3,c4⟩=>⟨v,k,c1,c2,om,c4⟩));clear hT;cases S
 .rw[if_neg (by decide)]at hB;rcases hs with rfl|⟨_,h⟩
  .rw[if_neg (by decide)];subst hB;exact aKD
  .cases h
 .rw[if_pos rfl]at hB;have u1:IntKind.i64.wrap (B-1)=t:=wi;rcases hs with rfl|⟨rfl,_⟩
  .rw[if_neg (by decide)];exact aKD
  .rw[if_pos rfl];go_enter func134,ntmps134;go_wp2_with (first|(go_at_call 131;refine kw (HK _) ?_)|(go_at_call 132;refine(HO _).mono ?_;rintro e n1 ⟨b1,k1,q1,gU,rfl,mZ⟩)|(go_at_call 150;with_reducible refine(HS.out _ _ gU).mono ?_;rintro e n2 ⟨b2,k2,q2,lC,rfl,zi⟩))
   go_returns;exact⟨_,_,_,lC,rfl,Gb.g⟩
def Wx(aF B:Int)(HK:pI aF B U)(w:World):
  CT 134 #[J aF,J 1] w (sV 20 0 w):=by
 go_enter func134,ntmps134;go_wp2_with (go_at_call 131;refine kw (HK _) ?_);go_returns;refine⟨_,_,_,⟨0,om,⟨de,.inl rfl⟩,(qG w 0).raw de⟩,rfl,Gb.g⟩
def M_(aF s:Int)(hs:s=0\/s=1)(w:World):
  CT 134 #[J aF,J s] w (sV 20 (fH aF s) w):=by
 by_cases c:BL aF=D
 .have hk:aF=0\/aF=1:=by unfold BL at c;exact of_decide_eq_true c
  rcases hk with rfl|rfl
  .have:=vX 0 s 32 31 D 2147483648 (hs.imp id (λh=>⟨h,rfl⟩)) de om om om de (λw=>qj 0 w) w;rcases hs with rfl|rfl<;>exact this
  .have:=vX 1 s 64 63 D 9223372036854775808 (hs.imp id (λh=>⟨h,rfl⟩)) de om om om de (λw=>qj 1 w) w;rcases hs with rfl|rfl<;>exact this
 .have c':BL aF=U:=by simpa using c
  have HK:pI aF (rQ aF) U:=λw=>c'▸qj aF w;have hk:¬(aF=0\/aF=1):=by unfold BL at c';exact of_decide_eq_false c'
  rcases hs with rfl|rfl
  .rcases(om:aF=2\/aF=3\/(aF≠2/\aF≠3))with rfl|rfl|⟨d,d'⟩
   .exact vX 2 0 32 32 U 4294967296 om de om om om de HK w
   .exact vX 3 0 64 64 U 18446744073709551616 om de om om om de HK w
   .have e1:rQ aF=0:=by unfold rQ;rw[if_neg om,if_neg (by omega)]
    have e2:fH aF 0=0:=by unfold fH;rw[if_neg om,if_neg om,if_neg om,if_neg (by omega)]
    rw[e2];rw[e1]at HK;exact vX aF 0 0 0 U 1 om de om om om de HK w
  .have e2:fH aF 1=0:=by unfold fH;rw[if_neg om,if_neg (by omega)];(repeat' split)<;>first|rfl|omega
   rw[e2];exact Wx aF _ HK w
def aJf(aF a B d:Int)(M L:Nat)(t:Bool)(B0:0<B)(hd:decide (d<=0)=t)(ha:decide (9223372036854775808<=a)=U)(HK:pI aF B D)(HB:Hid (∀w,CT 132 #[.int .u64 a] w (sV 2 M w)))(HT:KW 117 #[J 63] (.int .u64 9223372036854775808))(HM:Hid (∀w,CT 134 #[J aF,J 0] w (sV 20 L w)))(HC:Hid (∀v v' w,aH 2 w v M->aH 20 w v' L->QB 133 #[v,v'] w (J d)))(w:World):
  CT 58 #[J aF,.int .u64 a] w λe w'=>∃b k c,aH 2 w' (aC b k c) M/\e=O (V #[Y #[J 0,aC b k c,J 0,X U],X t])/\Gb w w':=by
 go_enter func58,ntmps58;go_upto_region 3 with(first|(go_at_call 131;refine kw (HK _) ?_)|(go_at_call 132;refine(HB _).mono ?_;rintro e n1 ⟨b1,k1,q1,gU,rfl,mZ⟩;have wC:=mZ.OB w;have iR:=au wC.1))
 obtain⟨w2,jA⟩:=dK (n1.alloc (.cells #[J 0,aC b1 k1 q1,J 0,X U] 95));have aB:Gb n1 w2:=by rw[<-jA];exact(Gb.refl _).alloc _
 have lC:aH 2 w2 (aC b1 k1 q1) M:=aH.gb gU aB;have x0:w2.cell? ⟨n1.heap.size,0,none⟩=some (J 0):=by rw[<-jA];simp[go_sem]
 have x1:w2.cell? ⟨n1.heap.size,1,none⟩=some (aC b1 k1 q1):=by rw[<-jA];simp[go_sem]
 have x2:w2.cell? ⟨n1.heap.size,2,none⟩=some (J 0):=by rw[<-jA];simp[go_sem]
 have x3:w2.cell? ⟨n1.heap.size,3,none⟩=some (X U):=by rw[<-jA];simp[go_sem]
 have lu:n1.heap.size<w2.heap.size:=by rw[<-jA];simp
 rw[jA];clear jA;have:=aB.OB w;have X8:Gb w w2:=Gb.g;go_wp2_with (go_at_call 117;refine kw (HT _) ?_);go_region_held3 (λw'=>oV w' n1.heap.size 0 1 2 3 (J 0) (aC b1 k1 q1) (J 0) (X U))(exact nX)(first|(go_at_call 134;refine(HM _).mono ?_;rintro e n3 ⟨b3,k3,q3,qm,rfl,y9⟩;have:=y9.OB w)|(go_at_call 133;with_reducible refine ku (HC.out _ _ _ (aH.gb lC Gb.g) (aH.gb qm Gb.g)) λn4 ig=>?_;have Iu:=ig.OB w))
 all_goals go_wp2
 all_goals
  refine bodyPost_ret (v:=V #[Y #[J 0,aC b1 k1 q1,J 0,X U],X t]) (by simp[results,Tryz.results58,go_sem,Iu,hd]) rfl ⟨b1,k1,q1,?_,rfl,?_⟩
  .exact(aH.gb lC Gb.g).st4 Iu.1 Iu.2.2.1 Iu.2.2.2.2.1 Iu.2.2.2.2.2.2.1
  .exact Gb.g
def ou{one:Int}(h:bD f p mx one aI sg nan)(a0:0<=a){x:dM}(hx:dF p mx one aI sg nan a x)(hc:x.c<=2)(aj:Int):bY p (1-mx) mx one aI sg nan aj x a 0:=by
 have hb:=h.bounds;have c0:=(bK h hx).1.c0;obtain⟨ha,v,⟨hs,v0,v1,d0,d2⟩,hn,hz⟩:=xw h a0 hx hc;have e:a=sw x.s sg v:=by
  unfold sw;rcases hs with⟨s0,rfl⟩|⟨s1,rfl⟩
  .rw[if_neg (by omega)]
  .rw[if_pos s1]
 rcases(om:x.c=0\/x.c=1\/x.c=2)with c|c|c
 .exact .inl ⟨c,by rw[e,d0.1 c],rfl⟩
 .refine .inr (.inl ⟨c,v,?_,e⟩);obtain⟨_,_,_,_,hr⟩:=aBD h aj x.s v x.e (x.M:Int) om om (hn c);rw[Int.toNat_natCast]at hr;exact hr
 .exact .inr (.inr (.inl ⟨c,by rw[e,d2.1 c],rfl⟩))
def Es{P:Int->Int->Prop}(one:∀Z fl Z' oP,P Z fl->P Z' oP->Z=Z'/\fl=oP)(ex:∃Z fl,P Z fl)
  (hs:∀w,Calls Tryz.prog S args w (Dy P w))
  (hi:∀w,Fm w->Calls Tryz.prog I args w (vS P w)):
  ∃Z fl:Int,P Z fl/\(∀w,Calls Tryz.prog S args w λe w'=>e=O (aP Z fl)/\Gb w w')/\
   (∀w,Fm w->Calls Tryz.prog I args w λe w'=>e=O (aP Z fl)/\Gr w w'):=by
 obtain⟨Z,fl,h⟩:=ex;refine⟨Z,fl,h,λw=>(hs w).mono ?_,λw hw=>(hi w hw).mono ?_⟩
 .rintro e w' ⟨Z',oP,h',rfl,hg⟩;obtain⟨rfl,rfl⟩:=one _ _ _ _ h h';exact⟨rfl,hg⟩
 .rintro e w' ⟨Z',oP,h',rfl,hg⟩;obtain⟨rfl,rfl⟩:=one _ _ _ _ h h';exact⟨rfl,hg⟩
def dF.bare{one:Int}(h:bD f p mx one aI sg nan)(hs:s=0\/s=1)(v0:0<=v)(v1:v<=aI){y:dM}(hy:dF p mx one aI sg nan (sw s sg v) y):y.s=s/\dF p mx one aI sg nan v ⟨y.c,0,y.e,y.M⟩:=by
 have hb:=h.bounds;have hw:s=0/\sw s sg v=v\/s=1/\sw s sg v=v+sg:=by
  unfold sw;rcases hs with rfl|rfl
  .exact .inl ⟨rfl,by rw[if_neg (by decide)]⟩
  .exact .inr ⟨rfl,by rw[if_pos rfl]⟩
 rcases hy with⟨_,v',WT,hv'⟩|⟨c,_⟩
 .have e:v'=v/\y.s=s:=om;obtain⟨rfl,e2⟩:=e;exact⟨e2,.inl ⟨om,v',.inl ⟨rfl,rfl,om⟩,hv'⟩⟩
 .exfalso;omega
def aF4(M:Nat)(e q:Int)(he:0<=e+6000)(hq:0<=q+6000)(h:bg M e q U=0):nv (dw M e q) q=nv M e:=by
 unfold nv dw;by_cases c:q<=e
 .rw[if_pos c,Nat.mul_assoc,<-Nat.pow_add,(om:(e-q).toNat +(q+6000).toNat =(e+6000).toNat)]
 .rw[if_neg c];rw[zC _ _ _ _ c]at h;obtain⟨d,hd⟩:∃d,(q-e).toNat =d+1:=⟨(q-e).toNat -1,om⟩;rw[hd]at h⊢
  unfold hr at h;rw[Nat.add_sub_cancel]at h;have h1:¬M/2^d%2=1:=λk=>by rw[if_pos k]at h;omega
  have h2:M%2^d=0:=by
   rcases Nat.eq_zero_or_pos (M%2^d)with k|k
   .exact k
   .rw[if_pos (show M%2^d≠0\/U=D from .inl om)]at h;omega
  have h3:=Nat.div_add_mod M (2^d);rw[h2,Nat.add_zero]at h3;have h4:M/2^d=2*(M/2^d/2):=by
   generalize M/2^d=t at*;omega
  have h5:M/2^(d+1)=M/2^d/2:=by rw[Nat.pow_succ,Nat.div_div_eq_div_mul]
  rw[h5,(om:(q+6000).toNat =(d+1)+(e+6000).toNat),Nat.pow_add,<-Nat.mul_assoc,Nat.pow_succ]
  congr 1
  rw[<-Nat.mul_assoc,Nat.mul_comm (M/2^d/2),Nat.mul_assoc,Nat.mul_comm (M/2^d/2) 2,<-h4];exact h3
def aAg{one:Int}(h:bD f p mx one aI sg nan)(hs:s=0\/s=1)(hM:0<M)(e0:-5000<=e)(hr:bH p (1-mx) mx one aI aj s M e U z 0):
  0<z/\z<aI/\∀y,dF p mx one aI sg nan (sw s sg z) y->y.c=1/\y.s=s/\nv y.M y.e=nv M e:=by
 have hb:=h.bounds;obtain⟨P,hp,ho,hP⟩:=aBp h;obtain⟨b_,E,r,r2,hf,h1,h2,h3,h4,h5,hc⟩:=hr;have Df:b_<=mx/\(r:Int)+one*(E-(1-mx))<aI/\z=r+one*(E-(1-mx))/\hf=0:=om;obtain⟨c1,c2,c3,c4⟩:=Df;have hh:bg M e (E-p+1) U=0:=om;have hr':r=dw M e (E-p+1):=by rw[h4,c4,lQ]
 have hq:0<=E-p+1+6000:=om;have hnv:=aF4 M e (E-p+1) om hq hh;have fF:=qW M e (E-p+1) (P+1) om;rw[Nat.pow_succ]at fF;have hge:E=1-mx\/one<=(r:Int):=by
  rcases h2 with⟨a,b⟩|⟨a,b⟩
  .exact .inl b
  .right;have:=NV M e (E-p+1) P hM om;omega
 have r0:0<r:=by
  rcases Nat.eq_zero_or_pos r with k|k
  .have:=aDL M e (E-p+1) hM (by omega);omega
  .exact k
 have hk0:0<=one*(E-(1-mx)):=Int.mul_nonneg om om;refine⟨om,om,λy hy=>?_⟩;obtain⟨y1,y2⟩:=dF.bare h hs om om hy;obtain⟨_,q2,q3⟩:=aMP h y2 r E om om hge c3 om;dsimp only at q2 q3;rw[hr',hnv]at q3;refine⟨?_,y1,q3⟩;rcases q2 with k|k
 .exfalso;have:=(bK h hy).1.nil om;rw[this]at q3;unfold nv at q3;rw[Nat.zero_mul]at q3;have:=Nat.mul_pos hM (Nat.pow_pos (n:=(e+6000).toNat) (show 0<2 by decide));omega
 .exact k
def JY(he:0<=e+6000)(rG:e<=g)(h:nv M e=nv N g):M=N*2^(g-e).toNat :=by
 unfold nv at h;rw[(om:(g+6000).toNat =(g-e).toNat +(e+6000).toNat),Nat.pow_add,<-Nat.mul_assoc]at h;exact Nat.eq_of_mul_eq_mul_right (Nat.pow_pos de) h
def bH.nv{one:Int}(hM:0<M)(hN:0<N)(he:0<=e+6000)(hg:0<=g+6000)(h:nv M e=nv N g):bH p mn mx one aI aj aJ M e U z fl↔bH p mn mx one aI aj aJ N g U z fl:=by
 rcases Int.le_total e g with c|c
 .have hM':=JY he c h;have:=bH.scale (p:=p) (mn:=mn) (mx:=mx) (one:=one) (aI:=aI) (aj:=aj) (aJ:=aJ) (e:=g) (z:=z) (fl:=fl) (g-e).toNat hN;rw[<-hM',(om:g-((g-e).toNat :Int)=e)]at this;exact this
 .have zo:=JY hg c h.symm;have:=bH.scale (p:=p) (mn:=mn) (mx:=mx) (one:=one) (aI:=aI) (aj:=aj) (aJ:=aJ) (e:=e) (z:=z) (fl:=fl) (e-g).toNat hM;rw[<-zo,(om:e-((e-g).toNat :Int)=g)]at this;exact this.symm
def aD0{x:dM}(hx:-5000<=x.e)(h:nv x.M x.e=nv N 0)(way:Int):bV way x=N/\iY x=U:=by
 rcases Int.lt_or_le x.e 0 with c|c
 .have hM:=JY om om h;have hk:(0-x.e).toNat ≠0:=om;have hh:bg x.M x.e 0 U=0:=by
   rw[zC _ _ _ _ (by omega)];exact DZ _ _ om (by rw[hM];exact Nat.mul_mod_left _ _)
  constructor
  .unfold bV;rw[hh,lQ];unfold dw;rw[if_neg (by omega)];have:=Nat.mul_div_cancel N (Nat.pow_pos (n:=(0-x.e).toNat) (show 0<2 by decide));rw[<-hM]at this;exact this
  .unfold iY;rw[hh];rfl
 .have hN:=JY om c h.symm;rw[Int.sub_zero]at hN;exact⟨by rw[sD c,hN],ET c⟩
def aKB{P:Prop}(h:P:=by
 go_enter func71,ntmps71;go_wp2_with (first|(go_at_call 139;refine kw (HF _) ?_)|(go_at_call 126;refine ku (HU _) λw1 ak=>?_;have Jp:=ak.bG w;have lF:=au Jp.1)|(go_at_call 140;refine ku (HQ _) λva aO=>?_;have VF:=aO.bG w;have:=aO.fG w1))
 exact dI (by simp[results,Tryz.results71,go_sem,VF])):P:=h
def aKG{P:Prop}(h:P:=by
 go_enter func71,ntmps71;go_upto_region 10 with(first|(go_at_call 139;refine kw (HF _) ?_)|(go_at_call 126;refine ku (HU _) λw1 ak=>?_;have Jp:=ak.bG w;have lF:=au Jp.1)|(go_at_call 140;refine ku (HQ _) λva aO=>?_;have:=aO.bG w;have:=aO.fG w1)|(go_at_call 144;refine(HN _).mono ?_;rintro e w3 ⟨b3,k3,c3,qm,rfl,aK⟩;have:=aK.bG w;have:=aK.fG w1)|(go_at_call 157;with_reducible refine(HW.out _ _ _ _ qm).mono ?_;rintro e w4 ⟨b4,k4,c4,pz,rfl,aV⟩;have AL:=aV.bG w;have:=aV.fG w1;have hz4:=au AL.1;have ug:=XG pz hC)|(go_at_call 137;refine ku (HZ _) λw5 bJ=>?_;have iQ:=bJ.bG w;have:=bJ.fG w1;have hz5:=au iQ.1))
 obtain⟨w6,uY⟩:=dK (w5.alloc (.cells #[.int .u64 z,J 0] 100));have fK:Gr w5 w6:=by rw[<-uY];exact(Gr.refl _).alloc _ _
 have x0:w6.cell? ⟨w5.heap.size,0,none⟩=some (.int .u64 z):=by rw[<-uY];simp[go_sem]
 have x1:w6.cell? ⟨w5.heap.size,1,none⟩=some (J 0):=by rw[<-uY];simp[go_sem]
 have xz0:dB w6 w5.heap.size 0:=by rw[<-uY];simp[go_sem]
 have xz1:dB w6 w5.heap.size 1:=by rw[<-uY];simp[go_sem]
 have hz6:w5.heap.size<w6.heap.size:=by rw[<-uY];simp
 rw[uY];clear uY;have:=fK.bG w;have:=fK.fG w1;have hb6:aH 70005 w6 (aC b4 k4 c4) C:=aH.gb pz (bJ.gb.trans fK.gb);have X8:Gb w w6:=Gb.g;go_wp2_with (go_at_call 138;with_reducible refine ku (HR.out _ _ hb6) λw7 ji=>?_;have rr0:=ji.bG w;have:=ji.bG w5;have hz7:=au rr0.1);exact dI (by simp[results,Tryz.results71,go_sem,rr0])):P:=h
def aEj{P:Prop}(h:P:=by
 go_enter func71,ntmps71;go_upto_region 10 with(first|(go_at_call 139;refine kw (HF _) ?_)|(go_at_call 126;refine ku (HU _) λw1 ak=>?_;have Jp:=ak.bG w;have lF:=au Jp.1)|(go_at_call 140;refine ku (HQ _) λva aO=>?_;have:=aO.bG w;have:=aO.fG w1)|(go_at_call 144;refine(HN _).mono ?_;rintro e w3 ⟨b3,k3,c3,qm,rfl,aK⟩;have:=aK.bG w;have:=aK.fG w1)|(go_at_call 157;with_reducible refine(HW.out _ _ _ _ qm).mono ?_;rintro e w4 ⟨b4,k4,c4,pz,rfl,aV⟩;have AL:=aV.bG w;have:=aV.fG w1;have hz4:=au AL.1;have ug:=aHB pz)|(go_at_call 137;refine ku (HZ _) λw5 bJ=>?_;have iQ:=bJ.bG w;have:=bJ.fG w1;have hz5:=au iQ.1))
 obtain⟨w6,uY⟩:=dK (w5.alloc (.cells #[.int .u64 z,J 0] 100));have fK:Gr w5 w6:=by rw[<-uY];exact(Gr.refl _).alloc _ _
 have x0:w6.cell? ⟨w5.heap.size,0,none⟩=some (.int .u64 z):=by rw[<-uY];simp[go_sem]
 have x1:w6.cell? ⟨w5.heap.size,1,none⟩=some (J 0):=by rw[<-uY];simp[go_sem]
 have xz0:dB w6 w5.heap.size 0:=by rw[<-uY];simp[go_sem]
 have xz1:dB w6 w5.heap.size 1:=by rw[<-uY];simp[go_sem]
 have hz6:w5.heap.size<w6.heap.size:=by rw[<-uY];simp
 rw[uY];clear uY;have yr0:=fK.bG w;have:=fK.fG w1;have hb6:aH 70005 w6 (aC b4 k4 c4) 0:=aH.gb pz (bJ.gb.trans fK.gb);have X8:Gb w w6:=Gb.g;go_wp2;exact dI (by simp[results,Tryz.results71,go_sem,yr0])):P:=h
def SL(aj s e:Int)(M L C:Nat)(hf:Int)(t:Bool)(ht:(hf==0)=t)(v:Value)(w:World)
  (nU:Hid (∀w',Gb w w'->CT 223 #[Y #[J s,v,J e,X U],J 0] w' λx aT=>∃b k c,aH 70002 aT (aC b k c) L/\x=O (V #[aC b k c,J hf])/\Gb w' aT))
  (HCh:Hid (∀v' w',aH 70002 w' v' L->CT 224 #[J aj,J s,v',J hf] w' (sV 70005 C w'))) (b0 k0 c0:Nat) (hv:v=aC b0 k0 c0):
  CT 157 #[J aj,Y #[J s,v,J e,X U]] w λx w'=>∃b k c,aH 70005 w' (aC b k c) C/\x=O (V #[aC b k c,X t])/\Gb w w':=by
 subst hv;go_enter func157,ntmps157;go_wp2_with (first|(go_at_call 223;refine(nU _ Gb.g).mono ?_;rintro x n1 ⟨b1,k1,q1,gU,rfl,mZ⟩;have:=mZ.C10 w)|(go_at_call 224;with_reducible refine(HCh.out _ _ gU).mono ?_;rintro x n2 ⟨b2,k2,q2,lC,rfl,zi⟩))
 go_returns;exact⟨_,_,_,lC,rfl,Gb.g⟩
def EY(f aj a z fl:Int)(ex:Bool)(HF:oI f aj a U)(HL:oJ f z fl)(w:World):
  BA f aj a ex w z fl:=by
 go_enter func71,ntmps71;go_wp2_with (first|(go_at_call 139;refine kw (HF _) ?_)|(go_at_call 136;refine ku (HL _) λw9 bM=>?_;have iQ:=bM.bG w))
 exact dI (by simp[results,Tryz.results71,go_sem,iQ])
def aB9(f aj a c s x g z fl:Int)(b ex:Bool)(HF:oI f aj a D)(HU:bP f a c s x g)(HQ:bQ c s x g D)(e4:(c==4)=b)(HL:oU f b z fl)(w:World):
  BA f aj a ex w z fl:=by
 go_enter func71,ntmps71;go_wp2_with (first|(go_at_call 139;refine kw (HF _) ?_)|(go_at_call 126;refine ku (HU _) λw1 ak=>?_;have Jp:=ak.bG w;have lF:=au Jp.1)|(go_at_call 140;refine ku (HQ _) λva aO=>?_;have:=aO.bG w;have:=aO.fG w1)|(go_at_call 141;refine ku (HL _) λw9 bM=>?_;have iQ:=bM.bG w))
 exact dI (by simp[results,Tryz.results71,go_sem,iQ])
def aIv(f aj a c s x g:Int)(ex:Bool)(HF:oI f aj a D)(HU:bP f a c s x g)(HQ:bQ c s x g U)(e1:¬c=1)(w:World):
  QB 71 #[J f,J aj,.int .u64 a,X ex] w (aP a 0):=by
 exact aKB
def aIu(f aj a c s x g:Int)(ex:Bool)(HF:oI f aj a D)(HU:bP f a c s x g)(HQ:bQ c s x g U)(e1:c=1)(e2:decide (0<=x)=D)(w:World):
  QB 71 #[J f,J aj,.int .u64 a,X ex] w (aP a 0):=by
 subst e1;exact aKB
def aHB(h:aH K w (aC b k c) 0):((k:Nat):Int)=0:=by
 obtain⟨n,hn,hb⟩:=h;obtain⟨b',cap,e,_⟩:=hb.shape;have:=hb.none rfl;injection e with _ e2 _;omega
def XG(h:aH K w (aC b k c) N)(hN:0<N):0<k:=by
 obtain⟨n,hn,hb⟩:=h;obtain⟨b',cap,e,_⟩:=hb.shape;have h2:=hb.1.iff;injection e with _ e2 _;have:n≠0:=λh=>by have:=h2.1 h;omega
 omega
def aFk(f aj a c s x g z:Int)(M C:Nat)(ex wh:Bool)(hx:ex=U)(hC:C=0)(HF:oI f aj a D)(HU:bP f a c s x g)(HQ:bQ c s x g U)(e1:c=1)(e2:decide (0<=x)=U)(HN:Hid (∀w,CT 144 #[d_ c s x g] w λe w'=>∃b k cc,aH 2 w' (aC b k cc) M/\e=O (Y #[J s,aC b k cc,J x,X U])/\Gb w w'))(HW:Hid (∀b k c w,aH 2 w (aC b k c) M->CT 157 #[J aj,Y #[J s,aC b k c,J x,X U]] w λe w'=>∃b k c,aH 70005 w' (aC b k c) C/\e=O (V #[aC b k c,X wh])/\Gb w w'))(HZ:yG f s z 0)(w:World):
  BA f aj a ex w z 0:=by
 subst e1 hC;obtain rfl:=hx;exact aEj
def aFh(f aj a c s x g z y:Int)(M C:Nat)(ex wh:Bool)(hx:ex=U)(hC:0<C)(HF:oI f aj a D)(HU:bP f a c s x g)(HQ:bQ c s x g U)(e1:c=1)(e2:decide (0<=x)=U)(HN:Hid (∀w,CT 144 #[d_ c s x g] w λe w'=>∃b k cc,aH 2 w' (aC b k cc) M/\e=O (Y #[J s,aC b k cc,J x,X U])/\Gb w w'))(HW:Hid (∀b k c w,aH 2 w (aC b k c) M->CT 157 #[J aj,Y #[J s,aC b k c,J x,X U]] w λe w'=>∃b k c,aH 70005 w' (aC b k c) C/\e=O (V #[aC b k c,X wh])/\Gb w w'))(HZ:yG f s z 0)(HR:Hid (∀v w,aH 70005 w v C->QB 138 #[J f,J 0,Y #[J s,v,J 0,X U]] w (aP y 0)))(w:World):
  BA f aj a ex w y 0:=by
 subst e1;obtain rfl:=hx;exact aKG
def aFj(f aj a c s x g z:Int)(M C:Nat)(ex wh:Bool)(hx:ex=D/\wh=D)(hC:C=0)(HF:oI f aj a D)(HU:bP f a c s x g)(HQ:bQ c s x g U)(e1:c=1)(e2:decide (0<=x)=U)(HN:Hid (∀w,CT 144 #[d_ c s x g] w λe w'=>∃b k cc,aH 2 w' (aC b k cc) M/\e=O (Y #[J s,aC b k cc,J x,X U])/\Gb w w'))(HW:Hid (∀b k c w,aH 2 w (aC b k c) M->CT 157 #[J aj,Y #[J s,aC b k c,J x,X U]] w λe w'=>∃b k c,aH 70005 w' (aC b k c) C/\e=O (V #[aC b k c,X wh])/\Gb w w'))(HZ:yG f s z 0)(w:World):
  BA f aj a ex w z 0:=by
 subst e1 hC;obtain⟨rfl,rfl⟩:=hx;exact aEj
def aFg(f aj a c s x g z y:Int)(M C:Nat)(ex wh:Bool)(hx:ex=D/\wh=D)(hC:0<C)(HF:oI f aj a D)(HU:bP f a c s x g)(HQ:bQ c s x g U)(e1:c=1)(e2:decide (0<=x)=U)(HN:Hid (∀w,CT 144 #[d_ c s x g] w λe w'=>∃b k cc,aH 2 w' (aC b k cc) M/\e=O (Y #[J s,aC b k cc,J x,X U])/\Gb w w'))(HW:Hid (∀b k c w,aH 2 w (aC b k c) M->CT 157 #[J aj,Y #[J s,aC b k c,J x,X U]] w λe w'=>∃b k c,aH 70005 w' (aC b k c) C/\e=O (V #[aC b k c,X wh])/\Gb w w'))(HZ:yG f s z 0)(HR:Hid (∀v w,aH 70005 w v C->QB 138 #[J f,J 0,Y #[J s,v,J 0,X U]] w (aP y 0)))(w:World):
  BA f aj a ex w y 0:=by
 subst e1;obtain⟨rfl,rfl⟩:=hx;exact aKG
def aFi(f aj a c s x g z:Int)(M C:Nat)(ex wh:Bool)(hx:ex=D/\wh=U)(hC:C=0)(HF:oI f aj a D)(HU:bP f a c s x g)(HQ:bQ c s x g U)(e1:c=1)(e2:decide (0<=x)=U)(HN:Hid (∀w,CT 144 #[d_ c s x g] w λe w'=>∃b k cc,aH 2 w' (aC b k cc) M/\e=O (Y #[J s,aC b k cc,J x,X U])/\Gb w w'))(HW:Hid (∀b k c w,aH 2 w (aC b k c) M->CT 157 #[J aj,Y #[J s,aC b k c,J x,X U]] w λe w'=>∃b k c,aH 70005 w' (aC b k c) C/\e=O (V #[aC b k c,X wh])/\Gb w w'))(HZ:yG f s z 0)(w:World):
  BA f aj a ex w z 16:=by
 subst e1 hC;obtain⟨rfl,rfl⟩:=hx;exact aEj
def aFf(f aj a c s x g z y:Int)(M C:Nat)(ex wh:Bool)(hx:ex=D/\wh=U)(hC:0<C)(HF:oI f aj a D)(HU:bP f a c s x g)(HQ:bQ c s x g U)(e1:c=1)(e2:decide (0<=x)=U)(HN:Hid (∀w,CT 144 #[d_ c s x g] w λe w'=>∃b k cc,aH 2 w' (aC b k cc) M/\e=O (Y #[J s,aC b k cc,J x,X U])/\Gb w w'))(HW:Hid (∀b k c w,aH 2 w (aC b k c) M->CT 157 #[J aj,Y #[J s,aC b k c,J x,X U]] w λe w'=>∃b k c,aH 70005 w' (aC b k c) C/\e=O (V #[aC b k c,X wh])/\Gb w w'))(HZ:yG f s z 0)(HR:Hid (∀v w,aH 70005 w v C->QB 138 #[J f,J 0,Y #[J s,v,J 0,X U]] w (aP y 0)))(w:World):
  BA f aj a ex w y 16:=by
 subst e1;obtain⟨rfl,rfl⟩:=hx;go_enter func71,ntmps71;go_upto_region 10 with(first|(go_at_call 139;refine kw (HF _) ?_)|(go_at_call 126;refine ku (HU _) λw1 ak=>?_;have Jp:=ak.bG w;have lF:=au Jp.1)|(go_at_call 140;refine ku (HQ _) λva aO=>?_;have:=aO.bG w;have:=aO.fG w1)|(go_at_call 144;refine(HN _).mono ?_;rintro e w3 ⟨b3,k3,c3,qm,rfl,aK⟩;have:=aK.bG w;have:=aK.fG w1)|(go_at_call 157;with_reducible refine(HW.out _ _ _ _ qm).mono ?_;rintro e w4 ⟨b4,k4,c4,pz,rfl,aV⟩;have AL:=aV.bG w;have:=aV.fG w1;have hz4:=au AL.1;have ug:=XG pz hC)|(go_at_call 137;refine ku (HZ _) λw5 bJ=>?_;have iQ:=bJ.bG w;have:=bJ.fG w1;have hz5:=au iQ.1))
 obtain⟨w6,uY⟩:=dK (w5.alloc (.cells #[.int .u64 z,J 0] 100));have fK:Gr w5 w6:=by rw[<-uY];exact(Gr.refl _).alloc _ _
 have x0:w6.cell? ⟨w5.heap.size,0,none⟩=some (.int .u64 z):=by rw[<-uY];simp[go_sem]
 have x1:w6.cell? ⟨w5.heap.size,1,none⟩=some (J 0):=by rw[<-uY];simp[go_sem]
 have xz0:dB w6 w5.heap.size 0:=by rw[<-uY];simp[go_sem]
 have xz1:dB w6 w5.heap.size 1:=by rw[<-uY];simp[go_sem]
 have hz6:w5.heap.size<w6.heap.size:=by rw[<-uY];simp
 rw[uY];clear uY;have:=fK.bG w;have:=fK.fG w1;have hb6:aH 70005 w6 (aC b4 k4 c4) C:=aH.gb pz (bJ.gb.trans fK.gb);have X8:Gb w w6:=Gb.g;go_upto_region 12 with(go_at_call 138;with_reducible refine ku (HR.out _ _ hb6) λw7 ji=>?_;have rr0:=ji.bG w;have:=ji.bG w5;have hz7:=au rr0.1);obtain⟨w8,ZX⟩:=dK ((w7.setCell ⟨w5.heap.size,0,none⟩ (.int .u64 y)).setCell ⟨w5.heap.size,1,none⟩ (J 0));have aPG:Gb w w7:=Gb.g;have fF:w.heap.size<=w5.heap.size:=om;have aUA:Gb w w8:=by
  rw[<-ZX];exact(aPG.setCell (a:=⟨w5.heap.size,0,none⟩) fF _).setCell (a:=⟨w5.heap.size,1,none⟩) fF _
 have s0:w8.cell? ⟨w5.heap.size,0,none⟩=some (.int .u64 y):=by rw[<-ZX];exact kh
 have s1:w8.cell? ⟨w5.heap.size,1,none⟩=some (J 0):=by rw[<-ZX];exact kh
 have sz1:dB w8 w5.heap.size 1:=by rw[<-ZX];exact kh
 have sr0:w8.cell? ⟨w.heap.size,0,none⟩=some (.int .u64 0):=by rw[<-ZX];exact kh
 have sr1:w8.cell? ⟨w.heap.size,1,none⟩=some (J 0):=by rw[<-ZX];exact kh
 have aTH:dB w8 w.heap.size 0:=by rw[<-ZX];exact kh
 have aTG:dB w8 w.heap.size 1:=by rw[<-ZX];exact kh
 rw[ZX];clear ZX;go_wp2;exact dI (by simp[results,Tryz.results71,go_sem,sr0,sr1])
def aKA{P:Prop}(h:P:=by
 go_enter func156,ntmps156;go_wp2_with (go_at_call 225;refine ku (HW _ Gb.g) λw1 ak=>?_);go_returns;exact⟨rfl,Gb.g⟩):P:=h
def aKC{P:Prop}(h:P:=by
 go_enter func69,ntmps69;go_wp2_with (first|(go_at_call 131;refine kw (HK _) ?_)|(go_at_call 135;refine kw (HY _) ?_)|(go_at_call 61;refine kw (HF _) ?_)|(go_at_call 126;refine ku (HU _) λw1 ak=>?_;have Jp:=ak.bG w;have lF:=au Jp.1)|(go_at_call 140;refine ku (HQ _) λva aO=>?_;have:=aO.bG w;have:=aO.fG w1))
 exact aKE):P:=h
def aKE{P:Prop}(h:P:=by
 go_region_held3 (λw'=>aA w' w1.heap.size 1 (J s))(exact nX)(first|(go_at_call 134;refine(HM _).mono ?_;rintro e n8 ⟨b8,k8,c8,hb8,rfl,aPQ⟩;have:=aPQ.bG w)|(go_at_call 156;refine ku (HWe _ _ _ _ (aH.gb hb8 Gb.g)) λn9 aPP=>?_;have iQ:=aPP.bG w))
 all_goals go_wp2
 all_goals
  exact dI (by simp[results,Tryz.results69,go_sem,iQ])):P:=h
def aKF{P:Prop}(h:P:=by
 subst hwh;have e2':(c==2)=U:=by simp[e2]
 go_enter func69,ntmps69;go_wp2_with (first|(go_at_call 131;refine kw (HK _) ?_)|(go_at_call 135;refine kw (HY _) ?_)|(go_at_call 61;refine kw (HF _) ?_)|(go_at_call 126;refine ku (HU _) λw1 ak=>?_;have Jp:=ak.bG w;have lF:=au Jp.1)|(go_at_call 140;refine ku (HQ _) λva aO=>?_;have:=aO.bG w;have:=aO.fG w1)|(go_at_call 144;refine(HN _).mono ?_;rintro e w3 ⟨b3,k3,c3,qm,rfl,aK⟩;have:=aK.bG w;have:=aK.fG w1)|(go_at_call 157;with_reducible refine(HWh.out _ _ _ _ qm).mono ?_;rintro e w4 ⟨b4,k4,c4,pz,rfl,aV⟩;have:=aV.bG w;have:=aV.fG w1)|(go_at_call 134;refine(HM _).mono ?_;rintro e w5 ⟨b5,k5,c5,hb5,rfl,bJ⟩;have:=bJ.bG w;have:=bJ.fG w1)|(go_at_call 133;with_reducible refine ku (HC.out _ _ _ (aH.gb pz bJ) hb5) λw6 fK=>?_;have:=fK.bG w;have:=fK.fG w1)|(go_at_call 156;refine ku (HWw _ _ _ _ (aH.gb pz (bJ.trans fK))) λw7 ji=>?_;have iQ:=ji.bG w))
 exact dI (by simp[results,Tryz.results69,go_sem,iQ])):P:=h
def Wv(s v r:Int)(hr:s=1/\IntKind.u64.wrap (0-v)=r/\IntKind.u64.wrap (-v)=r\/s=0/\v=r)(b k c:Nat)(HW:Hid (∀w',Gb w w'->QB 225 #[aC b k c] w' (.int .u64 v))):
  BD s b k c w r:=by
 rcases hr with⟨rfl,h1,h2⟩|⟨rfl,rfl⟩
 .exact aKA
 .exact aKA
def Vm(f aj aF a:Int)(S:Bool)(HK:pI aF 0 S)(w:World):
  yx f aj aF a w 0 1:=by
 go_enter func69,ntmps69;go_wp2_with (first|(go_at_call 131;refine kw (HK _) ?_))
 go_returns;exact⟨rfl,Gb.g⟩
def Vl(f aj aF a B:Int)(S:Bool)(B0:(B==0)=U)(HK:pI aF B S)(HY:lV aj U)(w:World):
  yx f aj aF a w 0 1:=by
 go_enter func69,ntmps69;go_wp2_with (first|(go_at_call 131;refine kw (HK _) ?_)|(go_at_call 135;refine kw (HY _) ?_))
 go_returns;exact⟨rfl,Gb.g⟩
def Gz(f aj aF a B:Int)(S:Bool)(B0:(B==0)=U)(HK:pI aF B S)(HY:lV aj D)(HF:dZ f a U)(w:World):
  yx f aj aF a w 0 1:=by
 go_enter func69,ntmps69;go_wp2_with (first|(go_at_call 131;refine kw (HK _) ?_)|(go_at_call 135;refine kw (HY _) ?_)|(go_at_call 61;refine kw (HF _) ?_))
 go_returns;exact⟨rfl,Gb.g⟩
def YP(f aj aF a B c s x g z:Int)(S:Bool)(L0:Nat)(B0:(B==0)=U)(HK:pI aF B S)(HY:lV aj D)(HF:dZ f a D)(HU:bP f a c s x g)(HQ:bQ c s x g D)(HM0:Hid (∀w,CT 134 #[J aF,J 0] w (sV 20 L0 w)))(HW0:Hid (∀b k c w,aH 20 w (aC b k c) L0->BD 0 b k c w z))(w:World):
  yx f aj aF a w z 1:=by
 go_enter func69,ntmps69;go_wp2_with (first|(go_at_call 131;refine kw (HK _) ?_)|(go_at_call 135;refine kw (HY _) ?_)|(go_at_call 61;refine kw (HF _) ?_)|(go_at_call 126;refine ku (HU _) λw1 ak=>?_;have Jp:=ak.bG w;have lF:=au Jp.1)|(go_at_call 140;refine ku (HQ _) λva aO=>?_;have:=aO.bG w;have:=aO.fG w1)|(go_at_call 134;refine(HM0 _).mono ?_;rintro e n1 ⟨b1,k1,c1,gU,rfl,mZ⟩;have:=mZ.bG w)|(go_at_call 156;refine ku (HW0 _ _ _ _ gU) λn2 zi=>?_;have iQ:=zi.bG w))
 exact dI (by simp[results,Tryz.results69,go_sem,iQ])
def YQ(f aj aF a B c s x g z:Int)(S:Bool)(L:Nat)(B0:(B==0)=U)(HK:pI aF B S)(HY:lV aj D)(HF:dZ f a D)(HU:bP f a c s x g)(HQ:bQ c s x g U)(e2:c=2)(HM:Hid (∀w,CT 134 #[J aF,J s] w (sV 20 L w)))(HWe:Hid (∀b k c w,aH 20 w (aC b k c) L->BD s b k c w z))(w:World):
  yx f aj aF a w z 1:=by
 subst e2;exact aKC
def YR(f aj aF a B c s x g z:Int)(S:Bool)(L:Nat)(B0:(B==0)=U)(HK:pI aF B S)(HY:lV aj D)(HF:dZ f a D)(HU:bP f a c s x g)(HQ:bQ c s x g U)(e2:¬c=2)(e3:decide (200<x)=D)(HM:Hid (∀w,CT 134 #[J aF,J s] w (sV 20 L w)))(HWe:Hid (∀b k c w,aH 20 w (aC b k c) L->BD s b k c w z))(w:World):
  yx f aj aF a w z 1:=by
 exact aKC
def YO(f aj aF a B c s x g z d:Int)(S wh:Bool)(M C L:Nat)(hwh:wh=D)(B0:(B==0)=U)(HK:pI aF B S)(HY:lV aj D)(HF:dZ f a D)(HU:bP f a c s x g)(HQ:bQ c s x g U)(e2:¬c=2)(e3:decide (200<x)=U)(HN:Hid (∀w,CT 144 #[d_ c s x g] w λe w'=>∃b k cc,aH 2 w' (aC b k cc) M/\e=O (Y #[J s,aC b k cc,J x,X U])/\Gb w w'))(HWh:Hid (∀b k c w,aH 2 w (aC b k c) M->CT 157 #[J aj,Y #[J s,aC b k c,J x,X U]] w λe w'=>∃b k c,aH 70005 w' (aC b k c) C/\e=O (V #[aC b k c,X wh])/\Gb w w'))(HM:Hid (∀w,CT 134 #[J aF,J s] w (sV 20 L w)))(HC:Hid (∀v v' w,aH 70005 w v C->aH 20 w v' L->QB 133 #[v,v'] w (J d)))(hd:decide (d<=0)=D)(HWw:Hid (∀b k c w,aH 70005 w (aC b k c) C->BD s b k c w z))(w:World):
  yx f aj aF a w z 0:=by
 exact aKF
def YN(f aj aF a B c s x g z d:Int)(S wh:Bool)(M C L:Nat)(hwh:wh=U)(B0:(B==0)=U)(HK:pI aF B S)(HY:lV aj D)(HF:dZ f a D)(HU:bP f a c s x g)(HQ:bQ c s x g U)(e2:¬c=2)(e3:decide (200<x)=U)(HN:Hid (∀w,CT 144 #[d_ c s x g] w λe w'=>∃b k cc,aH 2 w' (aC b k cc) M/\e=O (Y #[J s,aC b k cc,J x,X U])/\Gb w w'))(HWh:Hid (∀b k c w,aH 2 w (aC b k c) M->CT 157 #[J aj,Y #[J s,aC b k c,J x,X U]] w λe w'=>∃b k c,aH 70005 w' (aC b k c) C/\e=O (V #[aC b k c,X wh])/\Gb w w'))(HM:Hid (∀w,CT 134 #[J aF,J s] w (sV 20 L w)))(HC:Hid (∀v v' w,aH 70005 w v C->aH 20 w v' L->QB 133 #[v,v'] w (J d)))(hd:decide (d<=0)=D)(HWw:Hid (∀b k c w,aH 70005 w (aC b k c) C->BD s b k c w z))(w:World):
  yx f aj aF a w z 16:=by
 exact aKF
def YM(f aj aF a B c s x g z d:Int)(S wh:Bool)(M C L:Nat)(B0:(B==0)=U)(HK:pI aF B S)(HY:lV aj D)(HF:dZ f a D)(HU:bP f a c s x g)(HQ:bQ c s x g U)(e2:¬c=2)(e3:decide (200<x)=U)(HN:Hid (∀w,CT 144 #[d_ c s x g] w λe w'=>∃b k cc,aH 2 w' (aC b k cc) M/\e=O (Y #[J s,aC b k cc,J x,X U])/\Gb w w'))(HWh:Hid (∀b k c w,aH 2 w (aC b k c) M->CT 157 #[J aj,Y #[J s,aC b k c,J x,X U]] w λe w'=>∃b k c,aH 70005 w' (aC b k c) C/\e=O (V #[aC b k c,X wh])/\Gb w w'))(HM:Hid (∀w,CT 134 #[J aF,J s] w (sV 20 L w)))(HC:Hid (∀v v' w,aH 70005 w v C->aH 20 w v' L->QB 133 #[v,v'] w (J d)))(hd:decide (d<=0)=U)(HWe:Hid (∀b k c w,aH 20 w (aC b k c) L->BD s b k c w z))(w:World):
  yx f aj aF a w z 1:=by
 have e2':(c==2)=U:=by simp[e2]
 go_enter func69,ntmps69;go_wp2_with (first|(go_at_call 131;refine kw (HK _) ?_)|(go_at_call 135;refine kw (HY _) ?_)|(go_at_call 61;refine kw (HF _) ?_)|(go_at_call 126;refine ku (HU _) λw1 ak=>?_;have Jp:=ak.bG w;have lF:=au Jp.1)|(go_at_call 140;refine ku (HQ _) λva aO=>?_;have:=aO.bG w;have:=aO.fG w1)|(go_at_call 144;refine(HN _).mono ?_;rintro e w3 ⟨b3,k3,c3,qm,rfl,aK⟩;have:=aK.bG w;have:=aK.fG w1)|(go_at_call 157;with_reducible refine(HWh.out _ _ _ _ qm).mono ?_;rintro e w4 ⟨b4,k4,c4,pz,rfl,aV⟩;have:=aV.bG w;have:=aV.fG w1)|(go_at_call 134;refine(HM _).mono ?_;rintro e w5 ⟨b5,k5,c5,hb5,rfl,bJ⟩;have:=bJ.bG w;have:=bJ.fG w1)|(go_at_call 133;with_reducible refine ku (HC.out _ _ _ (aH.gb pz bJ) hb5) λw6 fK=>?_;have:=fK.bG w;have:=fK.fG w1))
 exact aKE
def Fg(x y:dM)(hx:VO x)(hy:VO y)(mx:aG x.M)(my:aG y.M)(w:World):
  QR 190 #[aU x.s x.e x.c (((x.M/18446744073709551616:Nat):Int)) (((x.M%18446744073709551616:Nat):Int)) U 0,aU y.s y.e y.c (((y.M/18446744073709551616:Nat):Int)) (((y.M%18446744073709551616:Nat):Int)) U 0] w (J (oN x y)):=by
 obtain⟨xc,xs,xe,xM⟩:=x;obtain⟨yc,ys,ye,yM⟩:=y;have x01:=hx.jM;have y01:=hy.jM;dsimp only at x01 y01 mx my⊢
 unfold oN;dsimp only
 by_cases c:xs=ys
 .subst c;rw[if_neg (by simp)];have e3:kU ((xM%18446744073709551616:Nat):Int) ((yM%18446744073709551616:Nat):Int)=kU (xM:Int) (yM:Int):=by rw[Nat.mod_eq_of_lt mx,Nat.mod_eq_of_lt my]
  have hb:or3 (kU xc yc) (kU xe ye) (kU (xM:Int) (yM:Int))=-1\/or3 (kU xc yc) (kU xe ye) (kU (xM:Int) (yM:Int))=0\/or3 (kU xc yc) (kU xe ye) (kU (xM:Int) (yM:Int))=1:=by
   unfold or3;have:=J8 xc yc;have:=J8 xe ye;have:=J8 (xM:Int) (yM:Int);split<;>(try split)<;>omega
  refine VQ xs xe xc _ _ ye yc _ _ _ _ _ _ _ U U rfl rfl e3 rfl ?_ w;unfold Ph;dsimp only
  rcases x01 with rfl|rfl
  .exact .inr ⟨de,by rw[if_neg (by decide)]⟩
  .refine .inl ⟨rfl,?_⟩;rw[if_pos rfl];rcases hb with h|h|h<;>rw[h]<;>decide+kernel
 .rw[if_pos c];refine VR xs xe xc _ _ ys ye yc _ _ _ U U c ?_ w;rcases x01 with rfl|rfl<;>rcases y01 with rfl|rfl<;>first|(exact absurd rfl c)|decide+kernel
def aAU(h:s=0/\a=v\/s=1/\a=v+sg)(v0:0<=v)(v1:v<sg):a.tmod sg=v:=by
 rw[Int.tmod_eq_emod_of_nonneg (by omega)];rcases h with⟨_,rfl⟩|⟨_,rfl⟩
 .exact Int.emod_eq_of_lt v0 v1
 .rw[Int.add_emod_right];exact Int.emod_eq_of_lt v0 v1
def Zm(x y:dM):Int:=if max x.c y.c=0 then 0 else oN x y
def I4{one b:Int}(h:bD f p mx one aI sg nan)(a0:0<=a)(b0:0<=b){x y:dM}(hx:dF p mx one aI sg nan a x)(hy:dF p mx one aI sg nan b y)(xc:x.c<=2)(yc:y.c<=2)(w:World):
  QW 159 #[J f,.int .u64 a,.int .u64 b] w (J (Zm x y)):=by
 obtain⟨v,u,⟨ha,v0,v1,va,vb⟩,⟨hb,u0,u1,ua,ub⟩,hl⟩:=VT h a0 b0 hx hy xc yc;have hbd:=h.bounds;have x0:=(bK h hx).1.c0;have y0:=(bK h hy).1.c0;refine DV f a b v u sg _ (λw=>jZ h w) om (aAU ha v0 om) (aAU hb u0 om) ?_ w;show Zm x y=_;unfold Zm oN;rw[hl];by_cases c0:v=0/\u=0
 .rw[if_pos c0,if_pos (by omega)]
 .rw[if_neg c0,if_neg (by omega)];rcases ha with⟨hs,rfl⟩|⟨hs,rfl⟩<;>rcases hb with⟨ht,rfl⟩|⟨ht,rfl⟩<;>rw[hs,ht]
  .rw[if_neg de,if_neg de,if_neg (by rw[decide_eq_false om,decide_eq_false (by omega)];simp),decide_eq_true (om:a<sg)];unfold kU;by_cases c1:a=b
   .rw[if_pos c1,if_neg om,if_neg (by omega)]
   .rw[if_neg c1];by_cases c2:a<b
    .rw[if_pos c2,if_pos (by simp[c2])]
    .rw[if_neg c2,if_pos om,if_neg (by simp[c2])]
  .rw[if_pos de,if_pos (by rw[decide_eq_false om,decide_eq_true (by omega)];decide),if_neg (by omega)];rfl
  .rw[if_pos de,if_pos (by rw[decide_eq_true om,decide_eq_false (by omega)];decide),if_pos (by omega)];rfl
  .rw[if_neg de,if_pos rfl,if_neg (by rw[decide_eq_true om,decide_eq_true (by omega)];simp),decide_eq_false (om:¬v+sg<sg)];unfold kU;by_cases c1:v=u
   .rw[if_pos c1,if_neg om,if_neg (by omega)];rfl
   .rw[if_neg c1];by_cases c2:v<u
    .rw[if_pos c2,if_neg (by simp[c2])];rfl
    .rw[if_neg c2,if_pos om,if_pos (by simp[c2])]
def SC{one:Int}(h:bD f p mx one aI sg nan)(a1:aG a)(hn:2*sg<=a):f=0/\4294967296<=a:=by
 rcases h with⟨rfl,rfl,rfl,rfl,rfl,rfl,rfl⟩|⟨rfl,rfl,rfl,rfl,rfl,rfl,rfl⟩<;>omega
def EK(x y:dM)(s:Bool)(r fl:Int):Prop:=
 max x.c y.c=4/\r=2/\fl=1\/max x.c y.c=3/\s=D/\r=2/\fl=1\/max x.c y.c=3/\s=U/\r=2/\fl=0\/max x.c y.c=0/\r=0/\fl=0\/(max x.c y.c=1\/max x.c y.c=2)/\r=oN x y/\fl=0
def BJ(f a b:Int)(s:Bool)(r fl:Int):Prop:=
 (∃p mx one aI sg nan x y,bD f p mx one aI sg nan/\dF p mx one aI sg nan a x/\dF p mx one aI sg nan b y/\EK x y s r fl)\/(¬(f=0\/f=1)/\r=2/\fl=1)
def EK.ex(x y:dM)(hx:VO x)(hy:VO y)(s:Bool):∃r fl,EK x y s r fl:=by
 have:=hx.c0;have:=hx.c4;have:=hy.c0;have:=hy.c4;unfold EK;rcases(om:max x.c y.c=4\/max x.c y.c=3\/max x.c y.c=0\/(max x.c y.c=1\/max x.c y.c=2))with h|h|h|h
 .exact⟨_,_,.inl ⟨h,rfl,rfl⟩⟩
 .cases s
  .exact⟨_,_,.inr (.inr (.inl ⟨h,rfl,rfl,rfl⟩))⟩
  .exact⟨_,_,.inr (.inl ⟨h,rfl,rfl,rfl⟩)⟩
 .exact⟨_,_,.inr (.inr (.inr (.inl ⟨h,rfl,rfl⟩)))⟩
 .exact⟨_,_,.inr (.inr (.inr (.inr ⟨h,rfl,rfl⟩)))⟩
def EK.one{x y:dM}{s:Bool}(h:EK x y s r fl)(h':EK x y s r' oP):r=r'/\fl=oP:=by
 unfold EK at h h';generalize max x.c y.c=m at*
 generalize oN x y=d at*
 cases s<;>simp at h h'<;>omega
def JF(f a b:Int)(s:Bool)(a0:0<=a)(a1:aG a)(b0:0<=b)(b1:aG b)(w:World)(hw:Fm w):
  CT 101 #[J f,.int .u64 a,.int .u64 b,X s] w λe w'=>∃r fl,BJ f a b s r fl/\e=O (V #[J r,J fl])/\Gr w w':=by
 by_cases hf:f=0\/f=1
 .obtain⟨p,mx,one,aI,sg,nan,hF⟩:=eX f hf;obtain⟨mn,fb,sp,hM,zU,PD⟩:=hF.m;obtain⟨x,hx,HA⟩:=jf hF hM a a0 a1;obtain⟨y,hy,HB⟩:=jf hF hM b b0 b1;obtain⟨v1,v2,v3,v4,v5,v6⟩:=bK hF hx;obtain⟨u1,u2,u3,u4,u5,u6⟩:=bK hF hy;obtain⟨r,fl,hc⟩:=EK.ex x y v1 u1 s;refine(aNL p mn mx f a b _ _ _ _ _ _ _ _ _ _ _ r fl (oN x y) U U s (λw' hg=>mJ hF hM (hw.gr hg)) HA HB rfl hc (λw=>Fg x y v1 u1 om om w)).mono ?_;rintro e w' ⟨rfl,hg⟩;exact⟨r,fl,.inl ⟨p,mx,one,aI,sg,nan,x,y,hF,hx,hy,hc⟩,rfl,hg⟩
 .refine(aNM f a b s (λw=>nO f hf w) w).mono ?_;rintro e w' ⟨rfl,hg⟩;exact⟨2,1,.inr ⟨hf,rfl,rfl⟩,rfl,hg⟩
def BJ.one{b:Int}{s:Bool}(h:BJ f a b s r fl)(h':BJ f a b s r' oP):r=r'/\fl=oP:=by
 rcases h with⟨p,mx,one,aI,sg,nan,x,y,hF,hx,hy,hp⟩|⟨hF,rfl,rfl⟩<;>
 rcases h' with⟨p',wS,pX,ql,EM,pY,x',y',mG,Nq,hy',Qs⟩|⟨mG,rfl,rfl⟩
 .obtain⟨rfl,rfl,rfl,rfl,rfl,rfl⟩:=hF.one mG;obtain rfl:=hx.one hF Nq;obtain rfl:=hy.one hF hy';exact EK.one hp Qs
 .exact absurd hF.yes.symm (by simp[mG])
 .exact absurd mG.yes.symm (by simp[hF])
 .exact⟨rfl,rfl⟩
