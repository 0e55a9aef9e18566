import Derived.Test.YthoelefkjpjhfaaGreatDoorG5
import Derived.Deep.Cut
set_option linter.all false
open Go.Proofs.YthoelefkjpjhfaaGreatDoor renaming vI → J, vU → Z
open Go.Proofs.Tryz
namespace Go.Proofs.YthoelefkjpjhfaaGreatDoor
open Go.RowKit
attribute [local go_sem] aB dL
variable {w:ak}{a c h v s x g f p mx one aN sg nan mu inv scale e u sc:Int}{r P n M:Nat}{t:aJ}
def Ba(h:r<=2^P):nb r<=P+1:=vS (by have:=gZ (om:P<=P+1);rw[jE]at*;have:=iQ (n:=P) (show 0<2 by decide);omega)
def X9(h:r<2^P):nb r<=P:=vS h
def Ky(h:bI f p mx one aN sg nan){v:Value}(hB:Big w v n M)(hn:n<=100000)(hM:0<M)(Vo:nb M<=3200000)
  (aj aP e:Int) (rest:Bool) (m0:0<=aj) (m1:aj<=4) (hs:aP=0\/aP=1) (e0:-900000<=e) (e1:e<=900000) (hst:rest=true->p+2<=nb M):
  CT 138 #[J f,J aj,.agg #[J aP,v,J e,.bool rest]] w λx w'=>∃z fl,bM p (1-mx) mx one aN aj aP M e rest z fl/\0<=z/\z<sg/\x=.returned (aU (sw aP sg z) fl)/\Gb w w':=by
 obtain⟨b1,b2,b3,b4,b5,b6,b7,b8,b9,b10,b11,b12⟩:=h.bounds;obtain⟨mn,Ce⟩:=dP (1-mx);have HR:Hid (RC f p mn mx one aj aP w):=aQo h Ce aj aP m0 m1 hs w;have HB:Hid (aK 100000 w v M):=⟨n,hn,hB⟩;have yU:-1022<=mn/\mn<=-126:=om;obtain⟨P,hP,aKX,Dn⟩:=h.pow;have S9:one=((2^P:Nat):Int):=by rw[Dn];push_cast;rfl
 have xY:aN=one*(2*mx+1):=by rcases h with⟨rfl,rfl,rfl,rfl,rfl,rfl,rfl⟩|⟨rfl,rfl,rfl,rfl,rfl,rfl,rfl⟩<;>decide
 have hov:0<=kN aN aj aP/\kN aN aj aP<sg:=by unfold kN;split<;>omega
 have hP2:2^P<=4503599627370496:=om;have aCL:2^(P+1)=2*2^P:=by rw[jE];omega
 have DU:KR 222 #[J f,J aj,J aP] (aU (sw aP sg (kN aN aj aP)) 20):=λw'=>aBk h aj aP _ m0 m1 (by
  unfold sw;rcases hs with rfl|rfl
  .exact .inl ⟨rfl,by simp⟩
  .exact .inr ⟨rfl,by simp⟩) w'
 have wV:∀z:Int,0<=z->z<sg->Af f aP z (sw aP sg z):=λz z0 z1 w'=>yP h aP z _ (by
  unfold sw;rcases hs with rfl|rfl
  .exact .inl ⟨rfl,by simp⟩
  .exact .inr ⟨rfl,by simp⟩) z0 z1 w'
 obtain⟨dh,jF⟩:=x_n (nb M+e-1:Int);have jZ:=D8 M hM;rw[Ce];have pY:∀q:Int,-1000000<=q->q<=1000000->Hid (∀w',Gb w w'->CT 223 #[.agg #[J aP,v,J e,.bool rest],J q] w' λx bf=>∃vL,x=.returned (.tuple #[vL,J (bH M e q rest:Int)])/\aK 180000 bf vL (dH M e q)/\Gb w' bf):=λq q0 q1 w' hg=>
  (Ij (hB.gb hg) hn aP e q rest om om q0 q1).mono (λx bf ⟨vL,k,a1,a2,a3,a4⟩=>⟨vL,a1,⟨k,om,a2⟩,a4⟩)
 by_cases ho:mx<dh
 .refine(aEK HB HR b1 b2 yU.1 yU.2 b3 b4 om b6 om om om (nb M+e) dh rfl om _ DU ho).mono ?_;rintro x w' ⟨rfl,hg⟩;by_cases hc:dh<mn
  .exact⟨_,_,⟨dh,mn,_,_,_,jF,.inl ⟨hc,rfl⟩,rfl,rfl,rfl,.inl ⟨ho,rfl,rfl⟩⟩,hov.1,hov.2,rfl,hg⟩
  .exact⟨_,_,⟨dh,dh,_,_,_,jF,.inr ⟨om,rfl⟩,rfl,rfl,rfl,.inl ⟨ho,rfl,rfl⟩⟩,hov.1,hov.2,rfl,hg⟩
 by_cases aH7:dh<mn-p-2
 ·
  have aIa:=aCV M e (mn-p+1) rest hM om;have aNt:∀q:Int,-1000000<=q->q<=1000000->Hid (∀v1 w',aK 100000 w' v1 1->CT 223 #[.agg #[J aP,v1,J (mn-p-2),.bool true],J q] w' λx bf=>∃vL,x=.returned (.tuple #[vL,J (bH 1 (mn-p-2) q true:Int)])/\aK 180000 bf vL (dH 1 (mn-p-2) q)/\Gb w' bf):=λq q0 q1 v1 w' ⟨k1,kF,iF⟩=>
   (Ij iF kF aP (mn-p-2) q true om om q0 q1).mono (λx bf ⟨vL,k,a1,a2,a3,a4⟩=>⟨vL,a1,⟨k,om,a2⟩,a4⟩)
  have h1:nb 1=1:=de;have aNr:=aCV 1 (mn-p-2) (mn-p+1) true de (by rw[h1];omega);have wz:=mF aj aP 0 1;have aRl:=uf 1 (mn-p-2) (mn-p-2-p+1) p.toNat (by rw[h1];omega);have tY:=mF aj aP (dH 1 (mn-p-2) (mn-p-2-p+1)) (bH 1 (mn-p-2) (mn-p-2-p+1) true);have aTM:=Ba (r:=chosen aj aP (dH 1 (mn-p-2) (mn-p-2-p+1)) (bH 1 (mn-p-2) (mn-p-2-p+1) true)) (P:=p.toNat) om;have aV6:=Ba (r:=chosen aj aP 0 1) (P:=0) om;have HP':=wV (chosen aj aP 0 1:Nat) om om;have hC1:=aNt (mn-p+1) om om;rw[aNr.1,aNr.2]at hC1;refine(aEL HB HR b1 b2 yU.1 yU.2 b3 b4 om b6 om om om (nb M+e) dh rfl om aH7 0 1 hC1 om (chosen aj aP 0 1) rfl om om _ HP' om
   _ _ (mn-p-2-p+1) (mn-p-2-p) rfl rfl (aNt (mn-p-2-p+1) om om) (iZ _ _ _ _) _ rfl om om).mono ?_
  rintro x w' ⟨rfl,hg⟩;refine⟨_,_,⟨dh,mn,_,_,_,jF,.inl ⟨om,rfl⟩,rfl,rfl,rfl,.inr (.inr ⟨om,?_,?_,.inr (.inl ⟨?_,.inl om,rfl⟩)⟩)⟩,?_,?_,rfl,hg⟩
  .rw[aIa.1,aIa.2];simp;omega
  .rw[aIa.1,aIa.2];simp
  .rw[aIa.2];decide
  .omega
  .omega
 .by_cases hS:dh<mn
  ·
   have V5:=uf M e (mn-p+1) P om;have hrl:=mF aj aP (dH M e (mn-p+1)) (bH M e (mn-p+1) rest);obtain⟨r,hr⟩:=dP (chosen aj aP (dH M e (mn-p+1)) (bH M e (mn-p+1) rest));obtain⟨r2,tY⟩:=dP (chosen aj aP (dH M e (dh-p+1)) (bH M e (dh-p+1) rest));rw[hr]at hrl;have hrP:r<=2^P:=om;have aTL:=Ba hrP;have aRl:=uf M e (dh-p+1) (P+1) om;have aTB:=mF aj aP (dH M e (dh-p+1)) (bH M e (dh-p+1) rest);rw[tY]at aTB;have aTD:r2<=2^(P+1):=om;have aUY:=Ba aTD;have HP':=wV (r:Int) om om;have KF:(r:Int)+one*(mn-mn)<aN:=by rw[Int.sub_self,Int.mul_zero];omega
   have hz:((r:Nat):Int)=(r:Int)+one*(mn-mn):=by rw[Int.sub_self,Int.mul_zero];omega
   rcases jL (bH M e (mn-p+1) rest)with c|c
   .refine(aBi HB HR b1 b2 yU.1 yU.2 b3 b4 om b6 om om om (nb M+e) dh rfl om om hS _ _ (pY (mn-p+1) om om) (iZ _ _ _ _) r hr om _ HP' om om).mono ?_;rintro x w' ⟨rfl,hg⟩;exact⟨_,_,⟨dh,mn,r,r2,_,jF,.inl ⟨hS,rfl⟩,rfl,hr.symm,tY.symm,.inr (.inr ⟨om,KF,hz,.inl ⟨c,rfl⟩⟩)⟩,om,om,rfl,hg⟩
   .by_cases LW:(nb r2:Int)+dh-p<mn
    .refine(aBh HB HR b1 b2 yU.1 yU.2 b3 b4 om b6 om om om (nb M+e) dh rfl om om hS _ _ (pY (mn-p+1) om om) (iZ _ _ _ _) r hr om _ HP' om om _ _ (dh-p+1) (dh-p) rfl rfl (pY (dh-p+1) om om) (iZ _ _ _ _) r2 tY om LW).mono ?_;rintro x w' ⟨rfl,hg⟩;refine⟨_,_,⟨dh,mn,r,r2,_,jF,.inl ⟨hS,rfl⟩,rfl,hr.symm,tY.symm,.inr (.inr ⟨om,KF,hz,.inr (.inl ⟨c,?_,rfl⟩)⟩)⟩,om,om,rfl,hg⟩;by_cases O_:dh=mn-1
     .refine .inr ⟨O_,?_⟩;have:r2<2^(P+1):=by
       rcases uq r2 (2^(P+1))with k|k
       .exact k
       .have:=zY k;omega
      omega
     .exact .inl om
    .refine(aBg HB HR b1 b2 yU.1 yU.2 b3 b4 om b6 om om om (nb M+e) dh rfl om om hS _ _ (pY (mn-p+1) om om) (iZ _ _ _ _) r hr om _ HP' om om _ _ (dh-p+1) (dh-p) rfl rfl (pY (dh-p+1) om om) (iZ _ _ _ _) r2 tY om om).mono ?_;rintro x w' ⟨rfl,hg⟩;refine⟨_,_,⟨dh,mn,r,r2,_,jF,.inl ⟨hS,rfl⟩,rfl,hr.symm,tY.symm,.inr (.inr ⟨om,KF,hz,.inr (.inr ⟨c,.inr ⟨om,?_⟩,rfl⟩)⟩)⟩,om,om,rfl,hg⟩;have:2^(P+1)<=r2:=by
      rcases uq r2 (2^(P+1))with k|k
      .have:=X9 k;omega
      .exact k
     omega
  ·
   have V5:=uf M e (dh-p+1) (P+1) om;have hge:=PV M e (dh-p+1) P hM om;have hrl:=mF aj aP (dH M e (dh-p+1)) (bH M e (dh-p+1) rest);obtain⟨r,hr⟩:=dP (chosen aj aP (dH M e (dh-p+1)) (bH M e (dh-p+1) rest));rw[hr]at hrl;have aTL:=Ba (r:=r) (P:=P+1) om;have aV5:=zY (N:=r) (k:=P) om;obtain⟨Y,hY⟩:=dP (one*(dh-mn));have hYb:0<=Y/\Y<=one*(mx-mn):=by
    rw[<-hY];exact⟨Bj om om,Yv om om⟩
   have hYm:one*(mx-mn)=aN-2*one:=by rw[xY,(om:mx-mn=(2*mx+1)-2),Int.mul_sub,Int.mul_comm one 2]
   have hYs:dh<mx->Y<=aN-3*one:=by
    intro k;have:Y<=one*(mx-1-mn):=by rw[<-hY];exact Yv om om
    rw[(om:mx-1-mn=(2*mx+1)-3),Int.mul_sub,<-xY,Int.mul_comm one 3]at this;omega
   by_cases aTH:mx<(nb r:Int)+(dh-p+1)-1
   .have hrr:r=2^(P+1)/\dh=mx:=by
     have hb:P+1<nb r:=om;have:2^(P+1)<=r:=by
      rcases uq r (2^(P+1))with k|k
      .have:=X9 k;omega
      .exact k
     omega
    refine(aBd HB HR b1 b2 yU.1 yU.2 b3 b4 om b6 om om om (nb M+e) dh rfl om om om _ _ (pY (dh-p+1) om om) (iZ _ _ _ _) r hr om om _ DU aTH).mono ?_;rintro x w' ⟨rfl,hg⟩;refine⟨_,_,⟨dh,dh,r,r,_,jF,.inr ⟨om,rfl⟩,rfl,hr.symm,hr.symm,.inr (.inl ⟨om,?_,rfl,rfl⟩)⟩,hov.1,hov.2,rfl,hg⟩;rw[hY];have:Y=one*(mx-mn):=by rw[<-hY,hrr.2]
    omega
   .have fJ:(r:Int)+Y<aN:=by
     rcases uq r (2^(P+1))with k|k
     .omega
     .have:=zY k;have:=hYs om;omega
    have hz:(r:Int)+Y=(r:Int)+one*(dh-mn):=by rw[hY]
    have KF:(r:Int)+one*(dh-mn)<aN:=by rw[hY];exact fJ
    by_cases hE:dh=mn
    .have hY0:Y=0:=by rw[<-hY,hE,Int.sub_self,Int.mul_zero]
     have HP':=wV (r:Int) om om;have Yx:(r:Int)=(r:Int)+one*(dh-mn):=by rw[hY];omega
     rcases jL (bH M e (dh-p+1) rest)with c|c
     .refine(Yk HB HR b1 b2 yU.1 yU.2 b3 b4 om b6 om om om (nb M+e) dh rfl om om om om _ _ (pY (dh-p+1) om om) (iZ _ _ _ _) r hr om om _ HP' om om).mono ?_;rintro x w' ⟨rfl,hg⟩;exact⟨_,_,⟨dh,dh,r,r,_,jF,.inr ⟨om,rfl⟩,rfl,hr.symm,hr.symm,.inr (.inr ⟨om,KF,Yx,.inl ⟨c,rfl⟩⟩)⟩,om,om,rfl,hg⟩
     .refine(Yj HB HR b1 b2 yU.1 yU.2 b3 b4 om b6 om om om (nb M+e) dh rfl om (dh-p+1) (dh-p) rfl rfl om om om _ _ (pY (dh-p+1) om om) (iZ _ _ _ _) r hr om om _ HP' om om _ _ (pY (dh-p+1) om om) (iZ _ _ _ _) r hr om om).mono ?_;rintro x w' ⟨rfl,hg⟩;exact⟨_,_,⟨dh,dh,r,r,_,jF,.inr ⟨om,rfl⟩,rfl,hr.symm,hr.symm,.inr (.inr ⟨om,KF,Yx,.inr (.inr ⟨c,.inl om,rfl⟩)⟩)⟩,om,om,rfl,hg⟩
    .have HP':=wV ((r:Int)+Y) om om;have hYw:IntKind.u64.wrap (one*(dh-p+1-(mn-p+1)))=Y:=by
      rw[(om:dh-p+1-(mn-p+1)=dh-mn),hY,iT];omega
     rcases jL (bH M e (dh-p+1) rest)with c|c
     .refine(aBf HB HR b1 b2 yU.1 yU.2 b3 b4 om b6 om om om (nb M+e) dh rfl om om om _ _ (pY (dh-p+1) om om) (iZ _ _ _ _) r hr om om _ Y hYw om om HP' om om).mono ?_;rintro x w' ⟨rfl,hg⟩;exact⟨_,_,⟨dh,dh,r,r,_,jF,.inr ⟨om,rfl⟩,rfl,hr.symm,hr.symm,.inr (.inr ⟨om,KF,hz,.inl ⟨c,rfl⟩⟩)⟩,om,om,rfl,hg⟩
     .refine(aBe HB HR b1 b2 yU.1 yU.2 b3 b4 om b6 om om om (nb M+e) dh rfl om (dh-p+1) (dh-p) rfl rfl om om om _ _ (pY (dh-p+1) om om) (iZ _ _ _ _) r hr om om _ Y hYw om om HP' om om _ _ (pY (dh-p+1) om om) (iZ _ _ _ _) r hr om om).mono ?_;rintro x w' ⟨rfl,hg⟩;exact⟨_,_,⟨dh,dh,r,r,_,jF,.inr ⟨om,rfl⟩,rfl,hr.symm,hr.symm,.inr (.inr ⟨om,KF,hz,.inr (.inr ⟨c,.inl om,rfl⟩)⟩)⟩,om,om,rfl,hg⟩
set_option maxRecDepth 1000000
set_option maxHeartbeats 40000000
def SS(hm:Wo mu)(hi:Wo inv)(hs:Wo scale)(hw:Fm w):
  QR 199 #[Z mu,Z inv,Z scale] w (.bool (isC mu inv scale)):=by
 have HM:KR 272 #[lT 53 (-1022) 1023,Z mu] (Z (mu%9223372036854775808)):=λw=>Dw (.inr ⟨rfl,rfl,rfl,rfl,rfl,rfl,rfl,rfl,rfl⟩) mu hm.1 (by have:=hm.2;omega) w;obtain⟨c0,c1,c2,c3,c4,c5⟩:=hw;have hC:isC mu inv scale=(decide (mu%9223372036854775808<=4787326403894837248)&&(decide (yu<=inv)&&decide (inv<=4607182418800017408))&&(decide (0<scale)&&decide (scale<=4607182418800017408))):=rfl;have m0:0<=mu%9223372036854775808:=om;have i0:=hi.1;have i1:=hi.2;have s0:=hs.1;have s1:=hs.2;unfold yu at hC;generalize isC mu inv scale=b at*
 generalize mu%9223372036854775808=m at*
 clear hm hi hs;rcases(show(¬m<=4787326403894837248/\b=false)\/(m<=4787326403894837248/\¬4602678819172646912<=inv/\b=false)\/(m<=4787326403894837248/\4602678819172646912<=inv/\¬inv<=4607182418800017408/\b=false)\/(m<=4787326403894837248/\4602678819172646912<=inv/\inv<=4607182418800017408/\¬0<scale/\b=false)\/(m<=4787326403894837248/\4602678819172646912<=inv/\inv<=4607182418800017408/\0<scale/\b=decide (scale<=4607182418800017408)) by
  rw[hC];by_cases a1:m<=4787326403894837248
  .by_cases a2:4602678819172646912<=inv
   .by_cases a3:inv<=4607182418800017408
    .by_cases a4:0<scale
     .exact .inr (.inr (.inr (.inr ⟨a1,a2,a3,a4,by simp[a1,a2,a3,a4]⟩)))
     .exact .inr (.inr (.inr (.inl ⟨a1,a2,a3,a4,by simp[a4]⟩)))
    .exact .inr (.inr (.inl ⟨a1,a2,a3,by simp[a3]⟩))
   .exact .inr (.inl ⟨a1,a2,by simp[a2]⟩)
  .exact .inl ⟨a1,by simp[a1]⟩)with⟨a1,rfl⟩|⟨a1,a2,rfl⟩|⟨a1,a2,a3,rfl⟩|⟨a1,a2,a3,a4,rfl⟩|⟨a1,a2,a3,a4,rfl⟩
 all_goals
  clear hC;go_enter func199,ntmps199;go_wp2_with (go_at_call 272;refine ku (HM _) λw1 au=>?_);go_returns;exact⟨rfl,au⟩
abbrev aR1(a b c:Int):Value:=.agg #[Z a,Z b,Z c]
abbrev aAf(u c v:Int):Value:=.agg #[Z u,.int .u8 c,Z v]
structure Ac (w wx:ak) (r h e u c v:Int):Prop where
 g:Gr w wx:=by exact kr
 a0:aB wx w.heap.size 0 (Z r):=by exact kl
 a1:aB wx w.heap.size 1 (Z h):=by exact kl
 a2:aB wx w.heap.size 2 (Z e):=by exact kl
 b0:aB wx (w.heap.size+1) 0 (Z u):=by exact kl
 b1:aB wx (w.heap.size+1) 1 (.int .u8 c):=by exact kl
 b2:aB wx (w.heap.size+1) 2 (Z v):=by exact kl
def aFg{o:O7}(H:o.I)(HI:o.In){r:Int}(hr:Wo r)(hh:Wo h)(he:Wo e)(hu:Wo u)(c0:0<=c)(c1:c<=255)(hv:Wo v)(hw:Fm w)(hT:Tl w)(hD:Dc w):
  QR 204 #[aR1 r h e,aAf u c v] w (.tuple #[J (Wi (lK u) c),.bool (o.acc (Wi (lK u) c) (lK u) r h e v)]):=by
 have HB:Hid (∀w',Gr w w'->QW 275 #[Z u] w' (J (lK u:Nat))):=λw' hg=>aPG u hu.1 hu.2 (hT.below hg.below);have hn:=Gn u;have hz:=ZQ (lK u) c hn;have hzd:Wi (lK u) c=if c%2=1 then((lK u:Nat):Int)+1 else-((lK u:Nat):Int):=rfl
 generalize lK u=n at*
 generalize Wi n c=z at*
 have hd:=HI.sub (HI.int z) hr;have hdd:=HI.mul hd hd;have hm:=HI.mul hdd hh;have hq:Wo (4593671619917905920:Int):=Wo.c _;have nn:(n:Int)*n<=18*18:=Int.mul_le_mul om om om om;have nn0:0<=(n:Int)*n:=Bj om om;have hi:=HI.int ((n:Int)*n);have hmi:=HI.mul hi hq;have hx:=HI.sub hm hmi;have hc:Wo c32:=Wo.c _;have V3:=HI.mul hx hc;have hy:=HI.fix V3;have hdy:=Tn (o.fix (o.mul (o.Mc z n r h) c32));have K1:∀n,-9223372036854775808<=n->n<=9223372036854775807->Hid (∀w',Gr w w'->QR 276 #[J n] w' (Z (o.int n))):=λn a b w' hg=>H.word.out n a b w' (hw.gr hg);have K2:∀a b,Wo a->Wo b->Hid (∀w',Gr w w'->QR 200 #[Z a,Z b] w' (Z (o.sub a b))):=λa b ha hb w' hg=>H.minus.out a b ha hb w' (hw.gr hg);have K3:∀a b,Wo a->Wo b->Hid (∀w',Gr w w'->QR 201 #[Z a,Z b] w' (Z (o.mul a b))):=λa b ha hb w' hg=>H.times.out a b ha hb w' (hw.gr hg);have HW1:=K1 z om om;have ZE:=K2 _ _ (HI.int z) hr;have ZG:=K3 _ _ hd hd;have IU:=K3 _ _ hdd hh;obtain⟨N,hN⟩:=dP ((n:Int)*n);have HW2:=K1 ((n:Int)*n) om om;have HM3:=K3 _ _ hi hq;have HS2:Hid (∀w',Gr w w'->QR 200 #[Z (o.mul (o.mul (o.sub (o.int z) r) (o.sub (o.int z) r)) h),Z (o.mul (o.int ((n:Int)*n)) 4593671619917905920)] w' (Z (o.Mc z n r h))):=K2 _ _ hm hmi;have HM4:Hid (∀w',Gr w w'->QR 201 #[Z (o.Mc z n r h),Z c32] w' (Z (o.mul (o.Mc z n r h) c32))):=K3 _ _ hx hc;clear K1 K2 K3;have HF:Hid (∀w',Gr w w'->QR 202 #[Z (o.mul (o.Mc z n r h) c32)] w' (Z (o.fix (o.mul (o.Mc z n r h) c32)))):=λw' hg=>H.fix.out _ V3 w' (hw.gr hg);have HD:Hid (∀w',Gr w w'->QR 277 #[Z (o.fix (o.mul (o.Mc z n r h) c32))] w' (Z (oI (o.fix (o.mul (o.Mc z n r h) c32))))):=λw' hg=>aLh _ hy.1 hy.2 (hD.below hg.below);have HP:KR 278 #[Z (oI (o.fix (o.mul (o.Mc z n r h) c32))),Z e] (Z (o.leaves z n r h e)):=aCl _ _ hdy.1 om he.1 he.2;have HR:Hid (o.acc z n r h e v=decide (v/2<o.leaves z n r h e)):=rfl;have v0:=hv.1;have v1:=hv.2;have hv2:IntKind.u64.wrap (v.tdiv 2)=v/2:=by rw[Int.tdiv_eq_ediv_of_nonneg v0,iT];omega
 generalize o.acc z n r h e v=bb at*
 generalize o.leaves z n r h e=lv at*
 generalize oI (o.fix (o.mul (o.Mc z n r h) c32))=dy at*
 generalize o.fix (o.mul (o.Mc z n r h) c32)=fx at*
 generalize o.mul (o.Mc z n r h) c32=xc at*
 generalize o.Mc z n r h=xx at*
 rw[hN]at HW2 HM3 HS2 nn nn0;have hN2:IntKind.i64.wrap N=N:=by rw[dI];omega
 generalize o.mul (o.int N) 4593671619917905920=mi at*
 generalize o.mul (o.mul (o.sub (o.int z) r) (o.sub (o.int z) r)) h=mh at*
 generalize o.mul (o.sub (o.int z) r) (o.sub (o.int z) r)=dd at*
 generalize o.sub (o.int z) r=d at*
 generalize o.int N=iN at*
 generalize o.int z=iz at*
 clear hx V3 hy hdy hT hD hw H HI he hu hv hr hh hd hdd hm hq hi hmi hc;rcases(show(c%2=1/\z=(n:Int)+1)\/(c%2=0/\z=-(n:Int)) by
  by_cases h:c%2=1
  .exact .inl ⟨h,by rw[hzd,aQ h]⟩
  .exact .inr ⟨om,by rw[hzd,aH h]⟩)with⟨zA,rfl⟩|⟨zA,rfl⟩
 all_goals
  clear hzd;go_enter func204,ntmps204;go_upto_region 5 with(go_at_call 275;refine kw (HB _ kr) ?_);go_wp2;go_cut [8] (λs8 wx=>s8=Z d/\Ac w wx r h e u c v)
  case first=>
   go_region_held3 (λw'=>jU w' w.heap.size 0 1 2 (Z r) (Z h) (Z e)/\jU w' (w.heap.size+1) 0 1 2 (Z u) (.int .u8 c) (Z v))(exact qX)(first|(go_at_call 276;with_reducible refine ku (HW1.out _ kr) λw2 aC=>?_)|(go_at_call 200;with_reducible refine ku (ZE.out _ kr) λw3 aO=>?_))
   all_goals (go_wp2;go_meet)<;>exact⟨rfl,{}⟩
  case rest=>
   obtain⟨rfl,⟨qg,qa0,qa1,qa2,qb0,qb1,qb2⟩⟩:=hcut;go_wp2;go_cut [9] (λs9 wx=>s9=Z xx/\Ac w wx r h e u c v)
   case first=>
    go_region_held3 (λw'=>jU w' w.heap.size 0 1 2 (Z r) (Z h) (Z e)/\jU w' (w.heap.size+1) 0 1 2 (Z u) (.int .u8 c) (Z v))(exact qX)(first|(go_at_call 201;first|(with_reducible refine ku (ZG.out _ kr) λw4 bg=>?_)|(with_reducible refine ku (IU.out _ kr) λw5 bT=>?_)|(with_reducible refine ku (HM3.out _ kr) λw6 gG=>?_))|(go_at_call 276;with_reducible refine ku (HW2.out _ kr) λw7 jT=>?_)|(go_at_call 200;with_reducible refine ku (HS2.out _ kr) λw8 YF=>?_))
    all_goals (go_wp2;go_meet)<;>exact⟨rfl,{}⟩
   case rest=>
    clear qg qa0 qa1 qa2 qb0 qb1 qb2;obtain⟨rfl,⟨qg,qa0,qa1,qa2,qb0,qb1,qb2⟩⟩:=hcut;go_upto_region 8 with(first|(go_at_call 201;refine ku (HM4 _ qg) λw4 bg=>?_)|(go_at_call 202;refine ku (HF _ kr) λw5 bT=>?_)|(go_at_call 277;refine ku (HD _ kr) λw6 gG=>?_;have:=gG.C30 w;have:=gG.C31 w))
    go_region_held3 (λw'=>jU w' w.heap.size 0 1 2 (Z r) (Z h) (Z e)/\jU w' (w.heap.size+1) 0 1 2 (Z u) (.int .u8 c) (Z v))(exact qX)(first|(go_at_call 278;with_reducible refine ku (HP.out _) λw7 jT=>?_))
    all_goals go_wp2<;>go_returns
    all_goals
     obtain rfl:=HR.out;exact⟨rfl,kr⟩
def Gi(s:aJ)(a b i:Nat)(hb:b<=s.size):iJ (s.extract a b) i=if a+i<b then iJ s (a+i)else 0:=by
 have hz:(s.extract a b).size =b-a:=by rw[ByteArray.size_extract];omega
 unfold iJ;by_cases h:a+i<b
 .rw[aQ h,dif_pos om,dif_pos (by omega)];rw[ByteArray.getElem_extract]
 .rw[aH h,dif_neg (by omega)]
def Ia{s:aJ}(k:Nat):∀{p q:Nat},(∀i,i<k->iJ s (p+i)=iJ t (q+i))->num s p k=num t q k:=by
 induction k with
 |zero=>intro p q _;rfl
 |succ k ih=>
  intro p q h;show iJ s p+256*num s (p+1) k=iJ t q+256*num t (q+1) k;rw[ih (p:=p+1) (q:=q+1) (λi hi=>by rw[(om:p+1+i=p+(i+1)),(om:q+1+i=q+(i+1))];exact h (i+1) om),show iJ s p=iJ t q from h 0 (by omega)]
def aR0(t:aJ)(ht:17<=t.size):num (t.extract 0 17) 0 8=num t 0 8:=Ia 8 λi hi=>by
 rw[Gi _ _ _ _ ht,aQ om,Nat.zero_add]
def aRZ(t:aJ)(ht:17<=t.size):iJ (t.extract 0 17) 8=iJ t 8:=by
 rw[Gi _ _ _ _ ht,aQ (by omega)]
def aRY(t:aJ)(ht:17<=t.size):num ((t.extract 0 17).extract 9 17) 0 8=num t 9 8:=Ia 8 λi hi=>by
 have z1:(t.extract 0 17).size =17:=by rw[ByteArray.size_extract];omega
 rw[Gi _ _ _ _ om,aQ om,Gi _ _ _ _ ht,aQ om,Nat.zero_add,Nat.zero_add]
def aKv(t:aJ)(lb:Nat)(ht:t.size<17)(hc:aB w lb 0 (.string t)):
  QR 273 #[.pointer (some ⟨lb,0,none⟩)] w (.tuple #[aAf 0 0 0,.bool false]):=by
 have h1:(t.size:Int)<17:=om;have hcA:=eU hc;have hlb:=aA hc;go_enter func273,ntmps273;go_wp2;go_returns;exact⟨rfl,kr⟩
def aHx(t:aJ)(lb:Nat)(ht:17<=t.size)(hs:t.size<=1048576)(hc:aB w lb 0 (.string t))(hz:dL w lb 0):
  CT 273 #[.pointer (some ⟨lb,0,none⟩)] w λe w'=>e=.returned (.tuple #[aAf (num t 0 8) (iJ t 8) (num t 9 8),.bool true])/\Gr (w.setCell ⟨lb,0,none⟩ (.string (t.extract 17 t.size))) w':=by
 have h1:¬(t.size:Int)<17:=om;have hcA:=eU hc;have hzA:=SN hz;have hlb:=aA hc;have h2:(17:Int)<=t.size:=om;have z1:(t.extract 0 17).size =17:=by rw[ByteArray.size_extract];omega
 have z2:((t.extract 0 17).extract 9 17).size =8:=by rw[ByteArray.size_extract];omega
 have D1:KW 274 #[.string (t.extract 0 17)] (Z (num t 0 8)):=λw=>(aIC (t.extract 0 17) om om w).mono λe w' hh=>⟨hh.1.trans (by rw[aR0 t ht]),hh.2⟩;have D2:KW 274 #[.string ((t.extract 0 17).extract 9 17)] (Z (num t 9 8)):=λw=>(aIC ((t.extract 0 17).extract 9 17) om om w).mono λe w' hh=>⟨hh.1.trans (by rw[aRY t ht]),hh.2⟩;have q:∀w,(Instr.index 9 (.string (t.extract 0 17)) (J 8)).run prog w=.ok (.int .u8 (iJ t 8)) w:=λw=>(jR (t.extract 0 17) 8 om w).trans (by rw[aRZ t ht]);have q1:∀w,(Instr.slice 9 (.string t) none (some (J 17)) none).run prog w=.ok (.string (t.extract 0 17)) w:=λw=>run_slice_string_h w 9 t underlying9 .i64 17 om h2;have q2:∀w,(Instr.slice 9 (.string t) (some (J 17)) none none).run prog w=.ok (.string (t.extract 17 t.size)) w:=λw=>run_slice_string_l w 9 t underlying9 .i64 17 om h2;have q3:∀w,(Instr.slice 9 (.string (t.extract 0 17)) (some (J 9)) none none).run prog w=.ok (.string ((t.extract 0 17).extract 9 17)) w:=λw=>by
  have:=run_slice_string_l w 9 (t.extract 0 17) underlying9 .i64 9 om (by rw[z1];omega);rw[z1]at this;exact this
 generalize t.extract 17 t.size=t' at*
 generalize(t.extract 0 17).extract 9 17=t2 at*
 generalize t.extract 0 17=t1 at*
 go_enter func273,ntmps273;go_upto_region 5 with fail;have qY:(w.setCell ⟨lb,0,none⟩ (.string t')).heap.size =w.heap.size:=jW ..;rw[<-qY];obtain⟨W,hW⟩:=dP (w.setCell ⟨lb,0,none⟩ (.string t'));have hGW:Gr (w.setCell ⟨lb,0,none⟩ (.string t')) W:=by rw[hW];exact Gr.refl _
 rw[hW];clear hW;clear hc hz hcA hzA qY hlb q1 q2;go_region_held3 (λw'=>True)(trivial)(first|(go_at_call 274;first|(with_reducible refine kw (D1.out _) ?_)|(with_reducible refine kw (D2.out _) ?_)))
 all_goals go_wp2<;>go_returns
 all_goals exact⟨rfl,kr⟩
def aDh(t:aJ)(w:ak):
  CT 203 #[.string t] w λe w'=>e=.returned (.func (.func 273) #[] #[.pointer (some ⟨w.heap.size,0,none⟩)])/\w'=w.alloc (.cells #[.string t] 9):=by
 go_enter func203,ntmps203;go_wp2;go_returns;exact⟨rfl,rfl⟩
def vN:∀(z fl:Int) (w:ak),(Instr.field 100 (aU z fl) 0).run prog w=.ok (Z z) w:=λz fl w=>by kernel_rfl
def vF{o:O7}(H:o.S)(HI:o.In)(ha:Wo a)(lo hi cl ch:Int)(l0:-9223372036854775808<=lo)(l1:lo<=9223372036854775807)(h0:-9223372036854775808<=hi)(h1:hi<=9223372036854775807)(hl:o.mul (o.int lo) yu=cl)(hh:o.mul (o.int hi) yu=ch)(HU:bW 1 a c s x g)(r:Bool)
  (hr:r=(!decide (1<c)&&(decide (0<=Ai a cl)&&decide (Ai a ch<=0)))) (w:ak):
  QB 125 #[Z a,J lo,J hi] w (.bool r):=by
 have HW1:KB 111 #[J lo] (Z (o.int lo)):=H.word.out lo l0 l1;have HW2:KB 111 #[J hi] (Z (o.int hi)):=H.word.out hi h0 h1;have HH:=H.half;have ZG:KB 112 #[Z (o.int lo),Z yu] (Z cl):=by rw[<-hl];exact H.times.out _ _ (HI.int lo) (Wo.c _)
 have IU:KB 112 #[Z (o.int hi),Z yu] (Z ch):=by rw[<-hh];exact H.times.out _ _ (HI.int hi) (Wo.c _)
 have HO1:KW 159 #[J 1,Z a,Z cl] (J (Ai a cl)):=H.order.out a cl ha (by rw[<-hl];exact HI.mul (HI.int lo) (Wo.c _));have HO2:KW 159 #[J 1,Z a,Z ch] (J (Ai a ch)):=H.order.out a ch ha (by rw[<-hh];exact HI.mul (HI.int hi) (Wo.c _));generalize o.int lo=u1 at*
 generalize o.int hi=u2 at*
 generalize Ai a cl=q1 at*
 generalize Ai a ch=q2 at*
 clear H HI hl hh l0 l1 h0 h1 ha;rcases(show(1<c/\r=false)\/(¬1<c/\¬0<=q1/\r=false)\/(¬1<c/\0<=q1/\r=decide (q2<=0)) by
  by_cases c1:1<c
  .exact .inl ⟨c1,by rw[hr];simp[c1]⟩
  .by_cases c2:0<=q1
   .exact .inr (.inr ⟨c1,c2,by rw[hr];simp[c1,c2]⟩)
   .exact .inr (.inl ⟨c1,c2,by rw[hr];simp[c2]⟩))with⟨c1,rfl⟩|⟨c1,c2,rfl⟩|⟨c1,c2,rfl⟩
 .clear hr;go_enter func125,ntmps125;go_wp2_with (go_at_call 126;refine ku (HU _) λw1 au=>?_);go_returns;exact⟨rfl,kg⟩
 all_goals
  clear hr;go_enter func125,ntmps125;go_upto_region 4 with(go_at_call 126;refine ku (HU _) λw1 au=>?_);go_wp2_with (first|(go_at_call 111;first|(with_reducible refine ku (HW1.out _) λw2 aC=>?_)|(with_reducible refine ku (HW2.out _) λw5 bT=>?_))|(go_at_call 113;refine ku (HH _) λw3 aO=>?_)|(go_at_call 112;first|(with_reducible refine ku (ZG.out _) λw4 bg=>?_)|(with_reducible refine ku (IU.out _) λw6 gG=>?_))|(go_at_call 159;first|(with_reducible refine kw (HO1.out _) ?_)|(with_reducible refine kw (HO2.out _) ?_)))
  go_returns;exact⟨rfl,kg⟩
def aCQ{o:O7}(H:o.S)(HI:o.In)(ha:Wo a)(n t cn:Int)(hc:Wo cn)(HT:KW 117 #[J n] (Z t))(HF:Hid (∀w,CT 60 #[J 1,J 0,J 3,Z t] w λe w'=>∃fl:Int,e=.returned (aU cn fl)/\Gb w w'))
   (HU:bW 1 a c s x g) (r:Int) (hr:s=1/\r=0\/s=0/\r=o.fix (o.mul a cn)) (w:ak):
  QB 219 #[Z a,J n] w (Z r):=by
 have hf:=vN;have HM:KB 112 #[Z a,Z cn] (Z (o.mul a cn)):=H.times.out _ _ ha hc;have HX:Hid (∀w,CT 69 #[J 1,J 2,J 3,Z (o.mul a cn)] w λe w'=>∃fl:Int,e=.returned (aU (o.fix (o.mul a cn)) fl)/\Gb w w'):=H.fix.out _ (HI.mul ha hc);clear H HI ha hc;rcases hr with⟨rfl,rfl⟩|⟨rfl,rfl⟩
 .go_enter func219,ntmps219;go_wp2_with (go_at_call 126;refine ku (HU _) λw1 au=>?_);go_returns;exact⟨rfl,kg⟩
 .generalize o.fix (o.mul a cn)=r at*
  generalize o.mul a cn=m at*
  go_enter func219,ntmps219;go_upto_region 4 with(go_at_call 126;refine ku (HU _) λw1 au=>?_);go_wp2_with (first|(go_at_call 117;refine kw (HT _) ?_)|(go_at_call 60;refine(HF _).mono ?_;rintro e w3 ⟨f3,rfl,aO⟩)|(go_at_call 112;refine ku (HM _) λw4 bg=>?_)|(go_at_call 69;refine(HX _).mono ?_;rintro e w5 ⟨f5,rfl,bT⟩))
  go_returns;exact⟨rfl,kg⟩
def aK5{o:O7}(H:o.S)(HI:o.In)(ha:Wo a)(hq:9223372036854775808<=a->a%9223372036854775808<=9218868437227405312)(w:ak):
  QB 219 #[Z a,J 32] w (Z (o.fix (o.mul a c32))):=by
 obtain⟨c,s,x,g,hu,HU⟩:=H.unp ha;refine aCQ H HI ha 32 4294967296 c32 (Wo.c _) (λw=>lH 32 _ om de w) H.aIv HU _ ?_ w;obtain⟨h1,h2,h3,h4⟩:=hu;rcases h1 with h1|h1
 .exact .inr ⟨h1,rfl⟩
 .exact .inl ⟨h1,H.neg ha (h4 h1) (hq (h4 h1))⟩
def aK4{o:O7}(H:o.S)(HI:o.In)(h0:0<=a)(h1:a<9223372036854775808)(w:ak):
  QB 219 #[Z a,J 63] w (Z (o.shr a)):=by
 have ha:Wo a:=⟨h0,om⟩;obtain⟨c,s,x,g,hu,HU⟩:=H.unp ha;refine aCQ H HI ha 63 9223372036854775808 c63 (Wo.c _) (λw=>lH 63 _ om de w) H.aIu HU _ ?_ w;obtain⟨k1,k2,k3,k4⟩:=hu;rcases k1 with k1|k1
 .exact .inr ⟨k1,rfl⟩
 .have:=k4 k1;omega
def aFf{o:O7}(H:o.S)(HI:o.In)(z:Int)(n:Nat)(hn:n<=18)(z0:-18<=z)(z1:z<=19){r:Int}(hr:Wo r)(hh:Wo h)(s0:0<=sc)(s1:sc<9223372036854775808)(hv:Wo v)(w:ak):
  QB 130 #[J z,J n,Z r,Z h,Z sc,Z v] w (.bool (o.acc z n r h (o.shr sc) v)):=by
 have hf:=vN;have hd:=HI.sub (HI.int z) hr;have hdd:=HI.mul hd hd;have hm:=HI.mul hdd hh;have hq:Wo (4593671619917905920:Int):=Wo.c _;have hi:=HI.int ((n:Int)*n);have hmi:=HI.mul hi hq;have hx:=HI.sub hm hmi;have hy:=HI.fix (HI.mul hx (Wo.c c32));have HD:KR 218 #[Z (o.fix (o.mul (o.Mc z n r h) c32))] (Z (oI (o.fix (o.mul (o.Mc z n r h) c32)))):=aLg _ hy.1 hy.2;have HP:KR 217 #[Z (oI (o.fix (o.mul (o.Mc z n r h) c32))),Z (o.shr sc)] (Z (o.leaves z n r h (o.shr sc))):=by
  have d:=Tn (o.fix (o.mul (o.Mc z n r h) c32));have e:=HI.fix (HI.mul (show Wo sc from ⟨s0,om⟩) (Wo.c c63));exact aHi _ _ d.1 om e.1 e.2
 have HX:KB 219 #[Z (o.Mc z n r h),J 32] (Z (o.fix (o.mul (o.Mc z n r h) c32))):=aK5 H HI hx (HI.aQh hm hmi);have HE:KB 219 #[Z sc,J 63] (Z (o.shr sc)):=aK4 H HI s0 s1;have HW1:KB 111 #[J z] (Z (o.int z)):=H.word.out z om om;have nn:(n:Int)*n<=18*18:=Int.mul_le_mul om om om om;have nn0:0<=(n:Int)*n:=Bj om om;obtain⟨N,hN⟩:=dP ((n:Int)*n);have HW2:KB 111 #[J N] (Z (o.int N)):=H.word.out N om om;have HH:=H.half;have ZE:KB 127 #[Z (o.int z),Z r] (Z (o.sub (o.int z) r)):=H.minus.out _ _ (HI.int z) hr;have HT:=H.times;have HQ1:KB 112 #[Z yu,Z yu] (Z 4598175219545276416):=by rw[<-H.k6];exact HT _ _ (Wo.c _) (Wo.c _)
 have HQ2:KB 112 #[Z 4598175219545276416,Z yu] (Z 4593671619917905920):=by rw[<-H.k7];exact HT _ _ (Wo.c _) (Wo.c _)
 have HS2:KB 127 #[Z (o.mul (o.mul (o.sub (o.int z) r) (o.sub (o.int z) r)) h),Z (o.mul (o.int N) 4593671619917905920)] (Z (o.Mc z n r h)):=by rw[<-hN];exact H.minus.out _ _ hm hmi
 have ZG:KB 112 #[Z (o.sub (o.int z) r),Z (o.sub (o.int z) r)] (Z (o.mul (o.sub (o.int z) r) (o.sub (o.int z) r))):=HT _ _ hd hd;have IU:KB 112 #[Z (o.mul (o.sub (o.int z) r) (o.sub (o.int z) r)),Z h] (Z (o.mul (o.mul (o.sub (o.int z) r) (o.sub (o.int z) r)) h)):=HT _ _ hdd hh;have HM3:KB 112 #[Z (o.int N),Z 4593671619917905920] (Z (o.mul (o.int N) 4593671619917905920)):=by rw[<-hN];exact HT _ _ hi hq
 have HR:Hid (o.acc z n r h (o.shr sc) v=decide (v/2<o.leaves z n r h (o.shr sc))):=rfl;have v0:=hv.1;have v1:=hv.2;generalize o.acc z n r h (o.shr sc) v=b at*
 generalize o.leaves z n r h (o.shr sc)=lv at*
 generalize o.shr sc=es at*
 generalize oI (o.fix (o.mul (o.Mc z n r h) c32))=dy at*
 generalize o.fix (o.mul (o.Mc z n r h) c32)=fx at*
 generalize o.Mc z n r h=xx at*
 generalize o.mul (o.int N) 4593671619917905920=mi at*
 generalize o.mul (o.mul (o.sub (o.int z) r) (o.sub (o.int z) r)) h=mh at*
 generalize o.mul (o.sub (o.int z) r) (o.sub (o.int z) r)=dd at*
 generalize o.sub (o.int z) r=d at*
 generalize o.int N=iN at*
 generalize o.int z=iz at*
 clear HT H HI hr hh hd hdd hm hq hi hmi hx hy;go_enter func130,ntmps130;go_upto_region 2 with(first|(go_at_call 111;refine ku (HW1 _) λw1 au=>?_)|(go_at_call 127;refine ku (ZE _) λw2 aC=>?_))
 go_upto_region 3 with(first|(go_at_call 113;refine ku (HH _) λw3 aO=>?_)|(go_at_call 112;first|(with_reducible refine ku (HQ1.out _) λw4 bg=>?_)|(with_reducible refine ku (HQ2.out _) λw5 bT=>?_)))
 go_upto_region 4 with(first|(go_at_call 111;refine ku (HW2 _) λw6 gG=>?_)|(go_at_call 112;first|(with_reducible refine ku (ZG.out _) λw7 jT=>?_)|(with_reducible refine ku (IU.out _) λw8 YF=>?_)|(with_reducible refine ku (HM3.out _) λw9 bV=>?_))|(go_at_call 127;refine ku (HS2 _) λwa wC=>?_))
 go_wp2_with (first|(go_at_call 219;first|(with_reducible refine ku (HX.out _) λwb rC=>?_)|(with_reducible refine ku (HE.out _) λwc aH9=>?_))|(go_at_call 218;refine ku (HD _) λwd aU3=>?_)|(go_at_call 217;refine ku (HP _) λwe aU2=>?_))
 go_returns;obtain rfl:=HR.out;exact⟨rfl,kg⟩
