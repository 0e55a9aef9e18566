import Derived.Test.YtmiekgjgpmfekaaGreatDoorG5
set_option linter.all false
namespace Go.Proofs.YtmiekgjgpmfekaaGreatDoor
open Go.RowKit
theorem qR{r P:Nat}(h:r<=2^P):nb r<=P+1:=og (by have:=bT (show P<=P+1 by omega);rw[Nat.pow_succ]at*;have:=Nat.pow_pos (n:=P) (show 0<2 by decide);omega)
theorem MO{r P:Nat}(h:r<2^P):nb r<=P:=og h
theorem aIv(P:Nat):nb (2^P)=P+1:=by
 have h1:=qR (Nat.le_refl (2^P));have h2:=pq (Nat.le_refl (2^P));omega
theorem mQ{f p mx one inf sg nan:Int}(h:aP f p mx one inf sg nan){v:Value}{n M:Nat}{w:World}(hB:Big w v n M)(hn:n<=100000)(hM:0<M)(hnb:nb M<=3200000)
  (mode sign e:Int) (rest:Bool) (m0:0<=mode) (m1:mode<=4) (hs:sign=0\/sign=1) (e0:-900000<=e) (e1:e<=900000) (hst:rest=true->p+2<=nb M):
  CT 85 #[.int .i64 f,.int .i64 mode,.agg #[.int .i64 sign,v,.int .i64 e,.bool rest]] w fun x w'=>∃z fl,aO p (1-mx) mx one inf mode sign M e rest z fl/\0<=z/\z<sg/\x=.returned (aK (sw sign sg z) fl)/\Gb w w':=by
 obtain⟨b1,b2,b3,b4,b5,b6,b7,b8,b9,b10,b11,b12⟩:=h.bounds;obtain⟨mn,hmn⟩:∃mn,1-mx=mn:=⟨_,rfl⟩;have HR:Hid (RC f p mn mx one mode sign w):=aGg h hmn mode sign m0 m1 hs w;have HB:Hid (aC 100000 w v M):=⟨n,hn,hB⟩;have rJ:-1022<=mn/\mn<=-126:=om;obtain⟨P,hP,aBW,hone⟩:=h.pow;have hone':one=((2^P:Nat):Int):=by rw[hone];push_cast;rfl
 have oP:inf=one*(2*mx+1):=by rcases h with⟨rfl,rfl,rfl,rfl,rfl,rfl,rfl⟩|⟨rfl,rfl,rfl,rfl,rfl,rfl,rfl⟩<;>decide
 have hov:0<=gu inf mode sign/\gu inf mode sign<sg:=by unfold gu;split<;>omega
 have hP2:2^P<=4503599627370496:=om;have hsucc:2^(P+1)=2*2^P:=by rw[Nat.pow_succ];omega
 have xR:KR 149 #[.int .i64 f,.int .i64 mode,.int .i64 sign] (aK (sw sign sg (gu inf mode sign)) 20):=fun w'=>QO h mode sign _ m0 m1 (by
  unfold sw;rcases hs with rfl|rfl
  ·exact .inl ⟨rfl,by simp⟩
  ·exact .inr ⟨rfl,by simp⟩) w'
 have nN:∀z:Int,0<=z->z<sg->tX f sign z (sw sign sg z):=fun z z0 z1 w'=>nP h sign z _ (by
  unfold sw;rcases hs with rfl|rfl
  ·exact .inl ⟨rfl,by simp⟩
  ·exact .inr ⟨rfl,by simp⟩) z0 z1 w'
 obtain⟨top,htop⟩:∃top:Int,top=nb M+e-1:=⟨_,rfl⟩;have hpos:=sO M hM;rw[hmn];have lU:∀q:Int,-1000000<=q->q<=1000000->Hid (∀w',Gb w w'->CT 150 #[.agg #[.int .i64 sign,v,.int .i64 e,.bool rest],.int .i64 q] w' fun x w''=>∃vL,x=.returned (.tuple #[vL,.int .i64 (aJ M e q rest:Int)])/\aC 180000 w'' vL (aW M e q)/\Gb w' w''):=fun q q0 q1 w' hg=>
  (Az (hB.gb hg) hn sign e q rest om om q0 q1).mono (fun x w'' ⟨vL,k,a1,a2,a3,a4⟩=>⟨vL,a1,⟨k,om,a2⟩,a4⟩)
 by_cases ho:mx<top
 ·refine(VT HB HR b1 b2 rJ.1 rJ.2 b3 b4 om b6 om om om (nb M+e) top rfl om _ xR ho).mono ?_;rintro x w' ⟨rfl,hg⟩;by_cases hc:top<mn
  ·exact⟨_,_,⟨top,mn,_,_,_,htop,.inl ⟨hc,rfl⟩,rfl,rfl,rfl,.inl ⟨ho,rfl,rfl⟩⟩,hov.1,hov.2,rfl,hg⟩
  ·exact⟨_,_,⟨top,top,_,_,_,htop,.inr ⟨om,rfl⟩,rfl,rfl,rfl,.inl ⟨ho,rfl,rfl⟩⟩,hov.1,hov.2,rfl,hg⟩
 by_cases hlow:top<mn-p-2
 ·
  have Zy:=TR M e (mn-p+1) rest hM om;have aD4:∀q:Int,-1000000<=q->q<=1000000->Hid (∀v1 w',aC 100000 w' v1 1->CT 150 #[.agg #[.int .i64 sign,v1,.int .i64 (mn-p-2),.bool true],.int .i64 q] w' fun x w''=>∃vL,x=.returned (.tuple #[vL,.int .i64 (aJ 1 (mn-p-2) q true:Int)])/\aC 180000 w'' vL (aW 1 (mn-p-2) q)/\Gb w' w''):=fun q q0 q1 v1 w' ⟨k1,hk1,hb1⟩=>
   (Az hb1 hk1 sign (mn-p-2) q true om om q0 q1).mono (fun x w'' ⟨vL,k,a1,a2,a3,a4⟩=>⟨vL,a1,⟨k,om,a2⟩,a4⟩)
  have h1:nb 1=1:=de;have aD3:=TR 1 (mn-p-2) (mn-p+1) true de (by rw[h1];omega);have hr1:=fZ mode sign 0 1;have hlo2:=iH 1 (mn-p-2) (mn-p-2-p+1) p.toNat (by rw[h1];omega);have hr2:=fZ mode sign (aW 1 (mn-p-2) (mn-p-2-p+1)) (aJ 1 (mn-p-2) (mn-p-2-p+1) true);have aIQ:=qR (r:=chosen mode sign (aW 1 (mn-p-2) (mn-p-2-p+1)) (aJ 1 (mn-p-2) (mn-p-2-p+1) true)) (P:=p.toNat) om;have aKv:=qR (r:=chosen mode sign 0 1) (P:=0) om;have HP':=nN (chosen mode sign 0 1:Nat) om om;have hC1:=aD4 (mn-p+1) om om;rw[aD3.1,aD3.2]at hC1;refine(VU HB HR b1 b2 rJ.1 rJ.2 b3 b4 om b6 om om om (nb M+e) top rfl om hlow 0 1 hC1 om (chosen mode sign 0 1) rfl om om _ HP' om
   _ _ (mn-p-2-p+1) (mn-p-2-p) rfl rfl (aD4 (mn-p-2-p+1) om om) (fG _ _ _ _) _ rfl om om).mono ?_
  rintro x w' ⟨rfl,hg⟩;refine⟨_,_,⟨top,mn,_,_,_,htop,.inl ⟨om,rfl⟩,rfl,rfl,rfl,.inr (.inr ⟨om,?_,?_,.inr (.inl ⟨?_,.inl om,rfl⟩)⟩)⟩,?_,?_,rfl,hg⟩
  ·rw[Zy.1,Zy.2];simp;omega
  ·rw[Zy.1,Zy.2];simp
  ·rw[Zy.2];decide
  ·omega
  ·omega
 ·by_cases hS:top<mn
  ·
   have hlo:=iH M e (mn-p+1) P om;have hrl:=fZ mode sign (aW M e (mn-p+1)) (aJ M e (mn-p+1) rest);obtain⟨r,hr⟩:∃r,chosen mode sign (aW M e (mn-p+1)) (aJ M e (mn-p+1) rest)=r:=⟨_,rfl⟩;obtain⟨r2,hr2⟩:∃r2,chosen mode sign (aW M e (top-p+1)) (aJ M e (top-p+1) rest)=r2:=⟨_,rfl⟩;rw[hr]at hrl;have hrP:r<=2^P:=om;have aIP:=qR hrP;have hlo2:=iH M e (top-p+1) (P+1) om;have hrl2:=fZ mode sign (aW M e (top-p+1)) (aJ M e (top-p+1) rest);rw[hr2]at hrl2;have aIG:r2<=2^(P+1):=om;have aJD:=qR aIG;have HP':=nN (r:Int) om om;have BU:(r:Int)+one*(mn-mn)<inf:=by rw[Int.sub_self,Int.mul_zero];omega
   have hz:((r:Nat):Int)=(r:Int)+one*(mn-mn):=by rw[Int.sub_self,Int.mul_zero];omega
   rcases Nat.eq_zero_or_pos (aJ M e (mn-p+1) rest)with c|c
   ·refine(QL HB HR b1 b2 rJ.1 rJ.2 b3 b4 om b6 om om om (nb M+e) top rfl om om hS _ _ (lU (mn-p+1) om om) (fG _ _ _ _) r hr om _ HP' om om).mono ?_;rintro x w' ⟨rfl,hg⟩;exact⟨_,_,⟨top,mn,r,r2,_,htop,.inl ⟨hS,rfl⟩,rfl,hr.symm,hr2.symm,.inr (.inr ⟨om,BU,hz,.inl ⟨c,rfl⟩⟩)⟩,om,om,rfl,hg⟩
   ·by_cases hty:(nb r2:Int)+top-p<mn
    ·refine(QK HB HR b1 b2 rJ.1 rJ.2 b3 b4 om b6 om om om (nb M+e) top rfl om om hS _ _ (lU (mn-p+1) om om) (fG _ _ _ _) r hr om _ HP' om om _ _ (top-p+1) (top-p) rfl rfl (lU (top-p+1) om om) (fG _ _ _ _) r2 hr2 om hty).mono ?_;rintro x w' ⟨rfl,hg⟩;refine⟨_,_,⟨top,mn,r,r2,_,htop,.inl ⟨hS,rfl⟩,rfl,hr.symm,hr2.symm,.inr (.inr ⟨om,BU,hz,.inr (.inl ⟨c,?_,rfl⟩)⟩)⟩,om,om,rfl,hg⟩;by_cases ht1:top=mn-1
     ·refine .inr ⟨ht1,?_⟩;have:r2<2^(P+1):=by
       rcases Nat.lt_or_ge r2 (2^(P+1))with k|k
       ·exact k
       ·have:=pq k;omega
      omega
     ·exact .inl om
    ·refine(QJ HB HR b1 b2 rJ.1 rJ.2 b3 b4 om b6 om om om (nb M+e) top rfl om om hS _ _ (lU (mn-p+1) om om) (fG _ _ _ _) r hr om _ HP' om om _ _ (top-p+1) (top-p) rfl rfl (lU (top-p+1) om om) (fG _ _ _ _) r2 hr2 om om).mono ?_;rintro x w' ⟨rfl,hg⟩;refine⟨_,_,⟨top,mn,r,r2,_,htop,.inl ⟨hS,rfl⟩,rfl,hr.symm,hr2.symm,.inr (.inr ⟨om,BU,hz,.inr (.inr ⟨c,.inr ⟨om,?_⟩,rfl⟩)⟩)⟩,om,om,rfl,hg⟩;have:2^(P+1)<=r2:=by
      rcases Nat.lt_or_ge r2 (2^(P+1))with k|k
      ·have:=MO k;omega
      ·exact k
     omega
  ·
   have hlo:=iH M e (top-p+1) (P+1) om;have hge:=rP M e (top-p+1) P hM om;have hrl:=fZ mode sign (aW M e (top-p+1)) (aJ M e (top-p+1) rest);obtain⟨r,hr⟩:∃r,chosen mode sign (aW M e (top-p+1)) (aJ M e (top-p+1) rest)=r:=⟨_,rfl⟩;rw[hr]at hrl;have aIP:=qR (r:=r) (P:=P+1) om;have aKu:=pq (N:=r) (k:=P) om;obtain⟨Y,hY⟩:∃Y,one*(top-mn)=Y:=⟨_,rfl⟩;have hYb:0<=Y/\Y<=one*(mx-mn):=by
    rw[<-hY];exact⟨Int.mul_nonneg om om,Int.mul_le_mul_of_nonneg_left om om⟩
   have hYm:one*(mx-mn)=inf-2*one:=by rw[oP,show mx-mn=(2*mx+1)-2 by omega,Int.mul_sub,Int.mul_comm one 2]
   have hYs:top<mx->Y<=inf-3*one:=by
    intro k;have:Y<=one*(mx-1-mn):=by rw[<-hY];exact Int.mul_le_mul_of_nonneg_left om om
    rw[show mx-1-mn=(2*mx+1)-3 by omega,Int.mul_sub,<-oP,Int.mul_comm one 3]at this;omega
   by_cases aIK:mx<(nb r:Int)+(top-p+1)-1
   ·have hrr:r=2^(P+1)/\top=mx:=by
     have hb:P+1<nb r:=om;have:2^(P+1)<=r:=by
      rcases Nat.lt_or_ge r (2^(P+1))with k|k
      ·have:=MO k;omega
      ·exact k
     omega
    refine(QG HB HR b1 b2 rJ.1 rJ.2 b3 b4 om b6 om om om (nb M+e) top rfl om om om _ _ (lU (top-p+1) om om) (fG _ _ _ _) r hr om om _ xR aIK).mono ?_;rintro x w' ⟨rfl,hg⟩;refine⟨_,_,⟨top,top,r,r,_,htop,.inr ⟨om,rfl⟩,rfl,hr.symm,hr.symm,.inr (.inl ⟨om,?_,rfl,rfl⟩)⟩,hov.1,hov.2,rfl,hg⟩;rw[hY];have:Y=one*(mx-mn):=by rw[<-hY,hrr.2]
    omega
   ·have hlt:(r:Int)+Y<inf:=by
     rcases Nat.lt_or_ge r (2^(P+1))with k|k
     ·omega
     ·have:=pq k;have:=hYs om;omega
    have hz:(r:Int)+Y=(r:Int)+one*(top-mn):=by rw[hY]
    have BU:(r:Int)+one*(top-mn)<inf:=by rw[hY];exact hlt
    by_cases hE:top=mn
    ·have hY0:Y=0:=by rw[<-hY,hE,Int.sub_self,Int.mul_zero]
     have HP':=nN (r:Int) om om;have hz':(r:Int)=(r:Int)+one*(top-mn):=by rw[hY];omega
     rcases Nat.eq_zero_or_pos (aJ M e (top-p+1) rest)with c|c
     ·refine(Nh HB HR b1 b2 rJ.1 rJ.2 b3 b4 om b6 om om om (nb M+e) top rfl om om om om _ _ (lU (top-p+1) om om) (fG _ _ _ _) r hr om om _ HP' om om).mono ?_;rintro x w' ⟨rfl,hg⟩;exact⟨_,_,⟨top,top,r,r,_,htop,.inr ⟨om,rfl⟩,rfl,hr.symm,hr.symm,.inr (.inr ⟨om,BU,hz',.inl ⟨c,rfl⟩⟩)⟩,om,om,rfl,hg⟩
     ·refine(Nc HB HR b1 b2 rJ.1 rJ.2 b3 b4 om b6 om om om (nb M+e) top rfl om (top-p+1) (top-p) rfl rfl om om om _ _ (lU (top-p+1) om om) (fG _ _ _ _) r hr om om _ HP' om om _ _ (lU (top-p+1) om om) (fG _ _ _ _) r hr om om).mono ?_;rintro x w' ⟨rfl,hg⟩;exact⟨_,_,⟨top,top,r,r,_,htop,.inr ⟨om,rfl⟩,rfl,hr.symm,hr.symm,.inr (.inr ⟨om,BU,hz',.inr (.inr ⟨c,.inl om,rfl⟩)⟩)⟩,om,om,rfl,hg⟩
    ·have HP':=nN ((r:Int)+Y) om om;have hYw:IntKind.u64.wrap (one*(top-p+1-(mn-p+1)))=Y:=by
      rw[show top-p+1-(mn-p+1)=top-mn by omega,hY,IntKind.wrap_u64];omega
     rcases Nat.eq_zero_or_pos (aJ M e (top-p+1) rest)with c|c
     ·refine(QI HB HR b1 b2 rJ.1 rJ.2 b3 b4 om b6 om om om (nb M+e) top rfl om om om _ _ (lU (top-p+1) om om) (fG _ _ _ _) r hr om om _ Y hYw om om HP' om om).mono ?_;rintro x w' ⟨rfl,hg⟩;exact⟨_,_,⟨top,top,r,r,_,htop,.inr ⟨om,rfl⟩,rfl,hr.symm,hr.symm,.inr (.inr ⟨om,BU,hz,.inl ⟨c,rfl⟩⟩)⟩,om,om,rfl,hg⟩
     ·refine(QH HB HR b1 b2 rJ.1 rJ.2 b3 b4 om b6 om om om (nb M+e) top rfl om (top-p+1) (top-p) rfl rfl om om om _ _ (lU (top-p+1) om om) (fG _ _ _ _) r hr om om _ Y hYw om om HP' om om _ _ (lU (top-p+1) om om) (fG _ _ _ _) r hr om om).mono ?_;rintro x w' ⟨rfl,hg⟩;exact⟨_,_,⟨top,top,r,r,_,htop,.inr ⟨om,rfl⟩,rfl,hr.symm,hr.symm,.inr (.inr ⟨om,BU,hz,.inr (.inr ⟨c,.inl om,rfl⟩)⟩)⟩,om,om,rfl,hg⟩
