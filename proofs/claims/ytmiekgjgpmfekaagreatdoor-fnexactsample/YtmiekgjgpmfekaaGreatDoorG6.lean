import Derived.Test.YtmiekgjgpmfekaaGreatDoorG5
import Derived.Deep.Cut
set_option linter.all false
open Go.Proofs.YtmiekgjgpmfekaaGreatDoor renaming vI → J, vU → Z
open Go.Proofs.Tryz
namespace Go.Proofs.YtmiekgjgpmfekaaGreatDoor
open Go.RowKit
attribute [local go_sem] aj bG
variable{w:World}{a c h v s x g f p mx one inf sg nan mu inv scale e u sc:Int}{r P n M:Nat}{t:ByteArray}
theorem rQ(h:r<=2^P):nb r<=P+1:=oN (by have:=bV (show P<=P+1 by omega);rw[Nat.pow_succ]at*;have:=Nat.pow_pos (n:=P) (show 0<2 by decide);omega)
theorem NJ(h:r<2^P):nb r<=P:=oN h
theorem aJy(P:Nat):nb (2^P)=P+1:=by
 have h1:=rQ (Nat.le_refl (2^P));have h2:=qh (Nat.le_refl (2^P));omega
theorem nK(h:aQ f p mx one inf sg nan){v:Value}(hB:Big w v n M)(hn:n<=100000)(hM:0<M)(hnb:nb M<=3200000)
  (mode sign e:Int) (rest:Bool) (m0:0<=mode) (m1:mode<=4) (hs:sign=0\/sign=1) (e0:-900000<=e) (e1:e<=900000) (hst:rest=true->p+2<=nb M):
  CT 85 #[J f,J mode,.agg #[J sign,v,J e,.bool rest]] w fun x w'=>∃z fl,aP p (1-mx) mx one inf mode sign M e rest z fl/\0<=z/\z<sg/\x=.returned (aK (sw sign sg z) fl)/\Gb w w':=by
 obtain⟨b1,b2,b3,b4,b5,b6,b7,b8,b9,b10,b11,b12⟩:=h.bounds;obtain⟨mn,hmn⟩:∃mn,1-mx=mn:=⟨_,rfl⟩;have HR:Hid (RC f p mn mx one mode sign w):=aHo h hmn mode sign m0 m1 hs w;have HB:Hid (aF 100000 w v M):=⟨n,hn,hB⟩;have sJ:-1022<=mn/\mn<=-126:=om;obtain⟨P,hP,aCN,hone⟩:=h.pow;have hone':one=((2^P:Nat):Int):=by rw[hone];push_cast;rfl
 have pK:inf=one*(2*mx+1):=by rcases h with⟨rfl,rfl,rfl,rfl,rfl,rfl,rfl⟩|⟨rfl,rfl,rfl,rfl,rfl,rfl,rfl⟩<;>decide
 have hov:0<=gI inf mode sign/\gI inf mode sign<sg:=by unfold gI;split<;>omega
 have hP2:2^P<=4503599627370496:=om;have hsucc:2^(P+1)=2*2^P:=by rw[Nat.pow_succ];omega
 have yJ:KR 149 #[J f,J mode,J sign] (aK (sw sign sg (gI inf mode sign)) 20):=fun w'=>RS h mode sign _ m0 m1 (by
  unfold sw;rcases hs with rfl|rfl
  ·exact .inl ⟨rfl,by simp⟩
  ·exact .inr ⟨rfl,by simp⟩) w'
 have ou:∀z:Int,0<=z->z<sg->uT f sign z (sw sign sg z):=fun z z0 z1 w'=>oC h sign z _ (by
  unfold sw;rcases hs with rfl|rfl
  ·exact .inl ⟨rfl,by simp⟩
  ·exact .inr ⟨rfl,by simp⟩) z0 z1 w'
 obtain⟨top,htop⟩:∃top:Int,top=nb M+e-1:=⟨_,rfl⟩;have hpos:=uj M hM;rw[hmn];have mQ:∀q:Int,-1000000<=q->q<=1000000->Hid (∀w',Gb w w'->CT 150 #[.agg #[J sign,v,J e,.bool rest],J q] w' fun x w''=>∃vL,x=.returned (.tuple #[vL,J (aJ M e q rest:Int)])/\aF 180000 w'' vL (aZ M e q)/\Gb w' w''):=fun q q0 q1 w' hg=>
  (BA (hB.gb hg) hn sign e q rest om om q0 q1).mono (fun x w'' ⟨vL,k,a1,a2,a3,a4⟩=>⟨vL,a1,⟨k,om,a2⟩,a4⟩)
 by_cases ho:mx<top
 ·refine(WU HB HR b1 b2 sJ.1 sJ.2 b3 b4 om b6 om om om (nb M+e) top rfl om _ yJ ho).mono ?_;rintro x w' ⟨rfl,hg⟩;by_cases hc:top<mn
  ·exact⟨_,_,⟨top,mn,_,_,_,htop,.inl ⟨hc,rfl⟩,rfl,rfl,rfl,.inl ⟨ho,rfl,rfl⟩⟩,hov.1,hov.2,rfl,hg⟩
  ·exact⟨_,_,⟨top,top,_,_,_,htop,.inr ⟨om,rfl⟩,rfl,rfl,rfl,.inl ⟨ho,rfl,rfl⟩⟩,hov.1,hov.2,rfl,hg⟩
 by_cases hlow:top<mn-p-2
 ·
  have aAr:=UJ M e (mn-p+1) rest hM om;have aE9:∀q:Int,-1000000<=q->q<=1000000->Hid (∀v1 w',aF 100000 w' v1 1->CT 150 #[.agg #[J sign,v1,J (mn-p-2),.bool true],J q] w' fun x w''=>∃vL,x=.returned (.tuple #[vL,J (aJ 1 (mn-p-2) q true:Int)])/\aF 180000 w'' vL (aZ 1 (mn-p-2) q)/\Gb w' w''):=fun q q0 q1 v1 w' ⟨k1,hk1,hb1⟩=>
   (BA hb1 hk1 sign (mn-p-2) q true om om q0 q1).mono (fun x w'' ⟨vL,k,a1,a2,a3,a4⟩=>⟨vL,a1,⟨k,om,a2⟩,a4⟩)
  have h1:nb 1=1:=de;have aE8:=UJ 1 (mn-p-2) (mn-p+1) true de (by rw[h1];omega);have hr1:=f_ mode sign 0 1;have hlo2:=iM 1 (mn-p-2) (mn-p-2-p+1) p.toNat (by rw[h1];omega);have hr2:=f_ mode sign (aZ 1 (mn-p-2) (mn-p-2-p+1)) (aJ 1 (mn-p-2) (mn-p-2-p+1) true);have aJU:=rQ (r:=chosen mode sign (aZ 1 (mn-p-2) (mn-p-2-p+1)) (aJ 1 (mn-p-2) (mn-p-2-p+1) true)) (P:=p.toNat) om;have aLg:=rQ (r:=chosen mode sign 0 1) (P:=0) om;have HP':=ou (chosen mode sign 0 1:Nat) om om;have hC1:=aE9 (mn-p+1) om om;rw[aE8.1,aE8.2]at hC1;refine(WV HB HR b1 b2 sJ.1 sJ.2 b3 b4 om b6 om om om (nb M+e) top rfl om hlow 0 1 hC1 om (chosen mode sign 0 1) rfl om om _ HP' om
   _ _ (mn-p-2-p+1) (mn-p-2-p) rfl rfl (aE9 (mn-p-2-p+1) om om) (fJ _ _ _ _) _ rfl om om).mono ?_
  rintro x w' ⟨rfl,hg⟩;refine⟨_,_,⟨top,mn,_,_,_,htop,.inl ⟨om,rfl⟩,rfl,rfl,rfl,.inr (.inr ⟨om,?_,?_,.inr (.inl ⟨?_,.inl om,rfl⟩)⟩)⟩,?_,?_,rfl,hg⟩
  ·rw[aAr.1,aAr.2];simp;omega
  ·rw[aAr.1,aAr.2];simp
  ·rw[aAr.2];decide
  ·omega
  ·omega
 ·by_cases hS:top<mn
  ·
   have hlo:=iM M e (mn-p+1) P om;have hrl:=f_ mode sign (aZ M e (mn-p+1)) (aJ M e (mn-p+1) rest);obtain⟨r,hr⟩:∃r,chosen mode sign (aZ M e (mn-p+1)) (aJ M e (mn-p+1) rest)=r:=⟨_,rfl⟩;obtain⟨r2,hr2⟩:∃r2,chosen mode sign (aZ M e (top-p+1)) (aJ M e (top-p+1) rest)=r2:=⟨_,rfl⟩;rw[hr]at hrl;have hrP:r<=2^P:=om;have aJT:=rQ hrP;have hlo2:=iM M e (top-p+1) (P+1) om;have hrl2:=f_ mode sign (aZ M e (top-p+1)) (aJ M e (top-p+1) rest);rw[hr2]at hrl2;have aJK:r2<=2^(P+1):=om;have aKH:=rQ aJK;have HP':=ou (r:Int) om om;have CV:(r:Int)+one*(mn-mn)<inf:=by rw[Int.sub_self,Int.mul_zero];omega
   have hz:((r:Nat):Int)=(r:Int)+one*(mn-mn):=by rw[Int.sub_self,Int.mul_zero];omega
   rcases Nat.eq_zero_or_pos (aJ M e (mn-p+1) rest)with c|c
   ·refine(RN HB HR b1 b2 sJ.1 sJ.2 b3 b4 om b6 om om om (nb M+e) top rfl om om hS _ _ (mQ (mn-p+1) om om) (fJ _ _ _ _) r hr om _ HP' om om).mono ?_;rintro x w' ⟨rfl,hg⟩;exact⟨_,_,⟨top,mn,r,r2,_,htop,.inl ⟨hS,rfl⟩,rfl,hr.symm,hr2.symm,.inr (.inr ⟨om,CV,hz,.inl ⟨c,rfl⟩⟩)⟩,om,om,rfl,hg⟩
   ·by_cases hty:(nb r2:Int)+top-p<mn
    ·refine(RJ HB HR b1 b2 sJ.1 sJ.2 b3 b4 om b6 om om om (nb M+e) top rfl om om hS _ _ (mQ (mn-p+1) om om) (fJ _ _ _ _) r hr om _ HP' om om _ _ (top-p+1) (top-p) rfl rfl (mQ (top-p+1) om om) (fJ _ _ _ _) r2 hr2 om hty).mono ?_;rintro x w' ⟨rfl,hg⟩;refine⟨_,_,⟨top,mn,r,r2,_,htop,.inl ⟨hS,rfl⟩,rfl,hr.symm,hr2.symm,.inr (.inr ⟨om,CV,hz,.inr (.inl ⟨c,?_,rfl⟩)⟩)⟩,om,om,rfl,hg⟩;by_cases ht1:top=mn-1
     ·refine .inr ⟨ht1,?_⟩;have:r2<2^(P+1):=by
       rcases Nat.lt_or_ge r2 (2^(P+1))with k|k
       ·exact k
       ·have:=qh k;omega
      omega
     ·exact .inl om
    ·refine(RI HB HR b1 b2 sJ.1 sJ.2 b3 b4 om b6 om om om (nb M+e) top rfl om om hS _ _ (mQ (mn-p+1) om om) (fJ _ _ _ _) r hr om _ HP' om om _ _ (top-p+1) (top-p) rfl rfl (mQ (top-p+1) om om) (fJ _ _ _ _) r2 hr2 om om).mono ?_;rintro x w' ⟨rfl,hg⟩;refine⟨_,_,⟨top,mn,r,r2,_,htop,.inl ⟨hS,rfl⟩,rfl,hr.symm,hr2.symm,.inr (.inr ⟨om,CV,hz,.inr (.inr ⟨c,.inr ⟨om,?_⟩,rfl⟩)⟩)⟩,om,om,rfl,hg⟩;have:2^(P+1)<=r2:=by
      rcases Nat.lt_or_ge r2 (2^(P+1))with k|k
      ·have:=NJ k;omega
      ·exact k
     omega
  ·
   have hlo:=iM M e (top-p+1) (P+1) om;have hge:=sS M e (top-p+1) P hM om;have hrl:=f_ mode sign (aZ M e (top-p+1)) (aJ M e (top-p+1) rest);obtain⟨r,hr⟩:∃r,chosen mode sign (aZ M e (top-p+1)) (aJ M e (top-p+1) rest)=r:=⟨_,rfl⟩;rw[hr]at hrl;have aJT:=rQ (r:=r) (P:=P+1) om;have aLf:=qh (N:=r) (k:=P) om;obtain⟨Y,hY⟩:∃Y,one*(top-mn)=Y:=⟨_,rfl⟩;have hYb:0<=Y/\Y<=one*(mx-mn):=by
    rw[<-hY];exact⟨Int.mul_nonneg om om,Int.mul_le_mul_of_nonneg_left om om⟩
   have hYm:one*(mx-mn)=inf-2*one:=by rw[pK,show mx-mn=(2*mx+1)-2 by omega,Int.mul_sub,Int.mul_comm one 2]
   have hYs:top<mx->Y<=inf-3*one:=by
    intro k;have:Y<=one*(mx-1-mn):=by rw[<-hY];exact Int.mul_le_mul_of_nonneg_left om om
    rw[show mx-1-mn=(2*mx+1)-3 by omega,Int.mul_sub,<-pK,Int.mul_comm one 3]at this;omega
   by_cases aJO:mx<(nb r:Int)+(top-p+1)-1
   ·have hrr:r=2^(P+1)/\top=mx:=by
     have hb:P+1<nb r:=om;have:2^(P+1)<=r:=by
      rcases Nat.lt_or_ge r (2^(P+1))with k|k
      ·have:=NJ k;omega
      ·exact k
     omega
    refine(RF HB HR b1 b2 sJ.1 sJ.2 b3 b4 om b6 om om om (nb M+e) top rfl om om om _ _ (mQ (top-p+1) om om) (fJ _ _ _ _) r hr om om _ yJ aJO).mono ?_;rintro x w' ⟨rfl,hg⟩;refine⟨_,_,⟨top,top,r,r,_,htop,.inr ⟨om,rfl⟩,rfl,hr.symm,hr.symm,.inr (.inl ⟨om,?_,rfl,rfl⟩)⟩,hov.1,hov.2,rfl,hg⟩;rw[hY];have:Y=one*(mx-mn):=by rw[<-hY,hrr.2]
    omega
   ·have hlt:(r:Int)+Y<inf:=by
     rcases Nat.lt_or_ge r (2^(P+1))with k|k
     ·omega
     ·have:=qh k;have:=hYs om;omega
    have hz:(r:Int)+Y=(r:Int)+one*(top-mn):=by rw[hY]
    have CV:(r:Int)+one*(top-mn)<inf:=by rw[hY];exact hlt
    by_cases hE:top=mn
    ·have hY0:Y=0:=by rw[<-hY,hE,Int.sub_self,Int.mul_zero]
     have HP':=ou (r:Int) om om;have hz':(r:Int)=(r:Int)+one*(top-mn):=by rw[hY];omega
     rcases Nat.eq_zero_or_pos (aJ M e (top-p+1) rest)with c|c
     ·refine(N9 HB HR b1 b2 sJ.1 sJ.2 b3 b4 om b6 om om om (nb M+e) top rfl om om om om _ _ (mQ (top-p+1) om om) (fJ _ _ _ _) r hr om om _ HP' om om).mono ?_;rintro x w' ⟨rfl,hg⟩;exact⟨_,_,⟨top,top,r,r,_,htop,.inr ⟨om,rfl⟩,rfl,hr.symm,hr.symm,.inr (.inr ⟨om,CV,hz',.inl ⟨c,rfl⟩⟩)⟩,om,om,rfl,hg⟩
     ·refine(N8 HB HR b1 b2 sJ.1 sJ.2 b3 b4 om b6 om om om (nb M+e) top rfl om (top-p+1) (top-p) rfl rfl om om om _ _ (mQ (top-p+1) om om) (fJ _ _ _ _) r hr om om _ HP' om om _ _ (mQ (top-p+1) om om) (fJ _ _ _ _) r hr om om).mono ?_;rintro x w' ⟨rfl,hg⟩;exact⟨_,_,⟨top,top,r,r,_,htop,.inr ⟨om,rfl⟩,rfl,hr.symm,hr.symm,.inr (.inr ⟨om,CV,hz',.inr (.inr ⟨c,.inl om,rfl⟩)⟩)⟩,om,om,rfl,hg⟩
    ·have HP':=ou ((r:Int)+Y) om om;have hYw:IntKind.u64.wrap (one*(top-p+1-(mn-p+1)))=Y:=by
      rw[show top-p+1-(mn-p+1)=top-mn by omega,hY,IntKind.wrap_u64];omega
     rcases Nat.eq_zero_or_pos (aJ M e (top-p+1) rest)with c|c
     ·refine(RH HB HR b1 b2 sJ.1 sJ.2 b3 b4 om b6 om om om (nb M+e) top rfl om om om _ _ (mQ (top-p+1) om om) (fJ _ _ _ _) r hr om om _ Y hYw om om HP' om om).mono ?_;rintro x w' ⟨rfl,hg⟩;exact⟨_,_,⟨top,top,r,r,_,htop,.inr ⟨om,rfl⟩,rfl,hr.symm,hr.symm,.inr (.inr ⟨om,CV,hz,.inl ⟨c,rfl⟩⟩)⟩,om,om,rfl,hg⟩
     ·refine(RG HB HR b1 b2 sJ.1 sJ.2 b3 b4 om b6 om om om (nb M+e) top rfl om (top-p+1) (top-p) rfl rfl om om om _ _ (mQ (top-p+1) om om) (fJ _ _ _ _) r hr om om _ Y hYw om om HP' om om _ _ (mQ (top-p+1) om om) (fJ _ _ _ _) r hr om om).mono ?_;rintro x w' ⟨rfl,hg⟩;exact⟨_,_,⟨top,top,r,r,_,htop,.inr ⟨om,rfl⟩,rfl,hr.symm,hr.symm,.inr (.inr ⟨om,CV,hz,.inr (.inr ⟨c,.inl om,rfl⟩)⟩)⟩,om,om,rfl,hg⟩
set_option maxRecDepth 1000000
set_option maxHeartbeats 40000000
theorem Iu(hm:Wo mu)(hi:Wo inv)(hs:Wo scale)(hw:Fm w):
  QR 64 #[Z mu,Z inv,Z scale] w (.bool (isC mu inv scale)):=by
 have HM:KR 132 #[iW 53 (-1022) 1023,Z mu] (Z (mu%9223372036854775808)):=fun w=>yt (.inr ⟨rfl,rfl,rfl,rfl,rfl,rfl,rfl,rfl,rfl⟩) mu hm.1 (by have:=hm.2;omega) w;obtain⟨c0,c1,c2,c3,c4,c5⟩:=hw;have hC:isC mu inv scale=(decide (mu%9223372036854775808<=4787326403894837248)&&(decide (qR<=inv)&&decide (inv<=4607182418800017408))&&(decide (0<scale)&&decide (scale<=4607182418800017408))):=rfl;have m0:0<=mu%9223372036854775808:=om;have i0:=hi.1;have i1:=hi.2;have s0:=hs.1;have s1:=hs.2;unfold qR at hC;generalize isC mu inv scale=b at*
 generalize mu%9223372036854775808=m at*
 clear hm hi hs;rcases(show(¬m<=4787326403894837248/\b=false)\/(m<=4787326403894837248/\¬4602678819172646912<=inv/\b=false)\/(m<=4787326403894837248/\4602678819172646912<=inv/\¬inv<=4607182418800017408/\b=false)\/(m<=4787326403894837248/\4602678819172646912<=inv/\inv<=4607182418800017408/\¬0<scale/\b=false)\/(m<=4787326403894837248/\4602678819172646912<=inv/\inv<=4607182418800017408/\0<scale/\b=decide (scale<=4607182418800017408)) by
  rw[hC];by_cases a1:m<=4787326403894837248
  ·by_cases a2:4602678819172646912<=inv
   ·by_cases a3:inv<=4607182418800017408
    ·by_cases a4:0<scale
     ·exact .inr (.inr (.inr (.inr ⟨a1,a2,a3,a4,by simp[a1,a2,a3,a4]⟩)))
     ·exact .inr (.inr (.inr (.inl ⟨a1,a2,a3,a4,by simp[a4]⟩)))
    ·exact .inr (.inr (.inl ⟨a1,a2,a3,by simp[a3]⟩))
   ·exact .inr (.inl ⟨a1,a2,by simp[a2]⟩)
  ·exact .inl ⟨a1,by simp[a1]⟩)with⟨a1,rfl⟩|⟨a1,a2,rfl⟩|⟨a1,a2,a3,rfl⟩|⟨a1,a2,a3,a4,rfl⟩|⟨a1,a2,a3,a4,rfl⟩
 all_goals
  clear hC;go_enter func64,ntmps64;go_wp2_with (go_at_call 132;refine ku (HM _) fun w1 ak=>?_);go_returns;exact⟨rfl,ak⟩
abbrev aIn(a b c:Int):Value:=.agg #[Z a,Z b,Z c]
abbrev P8(u c v:Int):Value:=.agg #[Z u,.int .u8 c,Z v]
structure Ac (w wx:World) (r h e u c v:Int):Prop where
 g:Gr w wx:=by exact kr
 a0:aj wx w.heap.size 0 (Z r):=by exact kl
 a1:aj wx w.heap.size 1 (Z h):=by exact kl
 a2:aj wx w.heap.size 2 (Z e):=by exact kl
 b0:aj wx (w.heap.size+1) 0 (Z u):=by exact kl
 b1:aj wx (w.heap.size+1) 1 (.int .u8 c):=by exact kl
 b2:aj wx (w.heap.size+1) 2 (Z v):=by exact kl
theorem Xo{o:O7}(H:o.I)(HI:o.In){r:Int}(hr:Wo r)(hh:Wo h)(he:Wo e)(hu:Wo u)(c0:0<=c)(c1:c<=255)(hv:Wo v)(hw:Fm w)(hT:Tl w)(hD:Dc w):
  QR 70 #[aIn r h e,P8 u c v] w (.tuple #[J (PI (iU u) c),.bool (o.acc (PI (iU u) c) (iU u) r h e v)]):=by
 have HB:Hid (∀w',Gr w w'->QW 138 #[Z u] w' (J (iU u:Nat))):=fun w' hg=>aGH u hu.1 hu.2 (hT.below hg.below);have hn:=Aq u;have hz:=PS (iU u) c hn;have hzd:PI (iU u) c=if c%2=1 then((iU u:Nat):Int)+1 else-((iU u:Nat):Int):=rfl
 generalize iU u=n at*
 generalize PI n c=z at*
 have hd:=HI.sub (HI.int z) hr;have hdd:=HI.mul hd hd;have hm:=HI.mul hdd hh;have hq:Wo (4593671619917905920:Int):=Wo.c _;have nn:(n:Int)*n<=18*18:=Int.mul_le_mul om om om om;have nn0:0<=(n:Int)*n:=Int.mul_nonneg om om;have hi:=HI.int ((n:Int)*n);have hmi:=HI.mul hi hq;have hx:=HI.sub hm hmi;have hc:Wo c32:=Wo.c _;have hxc:=HI.mul hx hc;have hy:=HI.fix hxc;have hdy:=II (o.fix (o.mul (o.DK z n r h) c32));have K1:∀n,-9223372036854775808<=n->n<=9223372036854775807->Hid (∀w',Gr w w'->QR 139 #[J n] w' (Z (o.int n))):=fun n a b w' hg=>H.word.out n a b w' (hw.gr hg);have K2:∀a b,Wo a->Wo b->Hid (∀w',Gr w w'->QR 66 #[Z a,Z b] w' (Z (o.sub a b))):=fun a b ha hb w' hg=>H.minus.out a b ha hb w' (hw.gr hg);have K3:∀a b,Wo a->Wo b->Hid (∀w',Gr w w'->QR 67 #[Z a,Z b] w' (Z (o.mul a b))):=fun a b ha hb w' hg=>H.times.out a b ha hb w' (hw.gr hg);have HW1:=K1 z om om;have Pz:=K2 _ _ (HI.int z) hr;have PE:=K3 _ _ hd hd;have PD:=K3 _ _ hdd hh;obtain⟨N,hN⟩:∃N,(n:Int)*n=N:=⟨_,rfl⟩;have HW2:=K1 ((n:Int)*n) om om;have HM3:=K3 _ _ hi hq;have HS2:Hid (∀w',Gr w w'->QR 66 #[Z (o.mul (o.mul (o.sub (o.int z) r) (o.sub (o.int z) r)) h),Z (o.mul (o.int ((n:Int)*n)) 4593671619917905920)] w' (Z (o.DK z n r h))):=K2 _ _ hm hmi;have HM4:Hid (∀w',Gr w w'->QR 67 #[Z (o.DK z n r h),Z c32] w' (Z (o.mul (o.DK z n r h) c32))):=K3 _ _ hx hc;clear K1 K2 K3;have HF:Hid (∀w',Gr w w'->QR 68 #[Z (o.mul (o.DK z n r h) c32)] w' (Z (o.fix (o.mul (o.DK z n r h) c32)))):=fun w' hg=>H.fix.out _ hxc w' (hw.gr hg);have HD:Hid (∀w',Gr w w'->QR 140 #[Z (o.fix (o.mul (o.DK z n r h) c32))] w' (Z (jV (o.fix (o.mul (o.DK z n r h) c32))))):=fun w' hg=>aC1 _ hy.1 hy.2 (hD.below hg.below);have HP:KR 141 #[Z (jV (o.fix (o.mul (o.DK z n r h) c32))),Z e] (Z (o.leaves z n r h e)):=T_ _ _ hdy.1 om he.1 he.2;have HR:Hid (o.acc z n r h e v=decide (v/2<o.leaves z n r h e)):=rfl;have v0:=hv.1;have v1:=hv.2;have hv2:IntKind.u64.wrap (v.tdiv 2)=v/2:=by rw[Int.tdiv_eq_ediv_of_nonneg v0,IntKind.wrap_u64];omega
 generalize o.acc z n r h e v=bb at*
 generalize o.leaves z n r h e=lv at*
 generalize jV (o.fix (o.mul (o.DK z n r h) c32))=dy at*
 generalize o.fix (o.mul (o.DK z n r h) c32)=fx at*
 generalize o.mul (o.DK z n r h) c32=xc at*
 generalize o.DK z n r h=xx at*
 rw[hN]at HW2 HM3 HS2 nn nn0;have hN2:IntKind.i64.wrap N=N:=wi;generalize o.mul (o.int N) 4593671619917905920=mi at*
 generalize o.mul (o.mul (o.sub (o.int z) r) (o.sub (o.int z) r)) h=mh at*
 generalize o.mul (o.sub (o.int z) r) (o.sub (o.int z) r)=dd at*
 generalize o.sub (o.int z) r=d at*
 generalize o.int N=iN at*
 generalize o.int z=iz at*
 clear hx hxc hy hdy hT hD hw H HI he hu hv hr hh hd hdd hm hq hi hmi hc;rcases(show(c%2=1/\z=(n:Int)+1)\/(c%2=0/\z=-(n:Int)) by
  by_cases h:c%2=1
  ·exact .inl ⟨h,by rw[hzd,if_pos h]⟩
  ·exact .inr ⟨om,by rw[hzd,if_neg h]⟩)with⟨hc2,rfl⟩|⟨hc2,rfl⟩
 all_goals
  clear hzd;go_enter func70,ntmps70;go_upto_region 5 with(go_at_call 138;refine kw (HB _ kr) ?_);go_wp2;go_cut [8] (fun s8 wx=>s8=Z d/\Ac w wx r h e u c v)
  case first=>
   go_region_held3 (fun w'=>aj w' w.heap.size 0 (Z r)/\aj w' w.heap.size 1 (Z h)/\aj w' w.heap.size 2 (Z e)/\aj w' (w.heap.size+1) 0 (Z u)/\aj w' (w.heap.size+1) 1 (.int .u8 c)/\aj w' (w.heap.size+1) 2 (Z v))
    (exact pz)
    (first
     |(go_at_call 139;with_reducible refine ku (HW1.out _ kr) fun w2 aA=>?_)
     |(go_at_call 66;with_reducible refine ku (Pz.out _ kr) fun w3 aC=>?_))
   all_goals (go_wp2;go_meet)
   all_goals exact⟨rfl,{}⟩
  case rest=>
   obtain⟨rfl,⟨qg,qa0,qa1,qa2,qb0,qb1,qb2⟩⟩:=hcut;go_wp2;go_cut [9] (fun s9 wx=>s9=Z xx/\Ac w wx r h e u c v)
   case first=>
    go_region_held3 (fun w'=>aj w' w.heap.size 0 (Z r)/\aj w' w.heap.size 1 (Z h)/\aj w' w.heap.size 2 (Z e)/\aj w' (w.heap.size+1) 0 (Z u)/\aj w' (w.heap.size+1) 1 (.int .u8 c)/\aj w' (w.heap.size+1) 2 (Z v))
     (exact pz)
     (first
      |(go_at_call 67;first|(with_reducible refine ku (PE.out _ kr) fun w4 aH=>?_)|(with_reducible refine ku (PD.out _ kr) fun w5 aO=>?_)|(with_reducible refine ku (HM3.out _ kr) fun w6 bJ=>?_))
      |(go_at_call 139;with_reducible refine ku (HW2.out _ kr) fun w7 dZ=>?_)
      |(go_at_call 66;with_reducible refine ku (HS2.out _ kr) fun w8 kY=>?_))
    all_goals (go_wp2;go_meet)
    all_goals exact⟨rfl,{}⟩
   case rest=>
    clear qg qa0 qa1 qa2 qb0 qb1 qb2;obtain⟨rfl,⟨qg,qa0,qa1,qa2,qb0,qb1,qb2⟩⟩:=hcut;go_upto_region 8 with(first
     |(go_at_call 67;refine ku (HM4 _ qg) fun w4 aH=>?_)
     |(go_at_call 68;refine ku (HF _ kr) fun w5 aO=>?_)
     |(go_at_call 140;refine ku (HD _ kr) fun w6 bJ=>?_;have:=bJ.C30 w;have:=bJ.C31 w))
    go_region_held3 (fun w'=>aj w' w.heap.size 0 (Z r)/\aj w' w.heap.size 1 (Z h)/\aj w' w.heap.size 2 (Z e)/\aj w' (w.heap.size+1) 0 (Z u)/\aj w' (w.heap.size+1) 1 (.int .u8 c)/\aj w' (w.heap.size+1) 2 (Z v))
     (exact pz)
     (first
      |(go_at_call 141;with_reducible refine ku (HP.out _) fun w7 dZ=>?_))
    all_goals go_wp2
    all_goals go_returns
    all_goals
     obtain rfl:=HR.out;exact⟨rfl,kr⟩
theorem xE(s:ByteArray)(a b i:Nat)(hb:b<=s.size):kS (s.extract a b) i=if a+i<b then kS s (a+i)else 0:=by
 have hz:(s.extract a b).size =b-a:=by rw[ByteArray.size_extract];omega
 unfold kS;by_cases h:a+i<b
 ·rw[if_pos h,dif_pos om,dif_pos (by omega)];rw[ByteArray.getElem_extract]
 ·rw[if_neg h,dif_neg (by omega)]
theorem rO{s:ByteArray}(k:Nat):∀{p q:Nat},(∀i,i<k->kS s (p+i)=kS t (q+i))->num s p k=num t q k:=by
 induction k with
 |zero=>intro p q _;rfl
 |succ k ih=>
  intro p q h;show kS s p+256*num s (p+1) k=kS t q+256*num t (q+1) k;rw[ih (p:=p+1) (q:=q+1) (fun i hi=>by rw[show p+1+i=p+(i+1) by omega,show q+1+i=q+(i+1) by omega];exact h (i+1) om),show kS s p=kS t q from h 0 (by omega)]
theorem aIm(t:ByteArray)(ht:17<=t.size):num (t.extract 0 17) 0 8=num t 0 8:=rO 8 fun i hi=>by
 rw[xE _ _ _ _ ht,if_pos om,Nat.zero_add]
theorem aIl(t:ByteArray)(ht:17<=t.size):kS (t.extract 0 17) 8=kS t 8:=by
 rw[xE _ _ _ _ ht,if_pos (by omega)]
theorem aIk(t:ByteArray)(ht:17<=t.size):num ((t.extract 0 17).extract 9 17) 0 8=num t 9 8:=rO 8 fun i hi=>by
 have z1:(t.extract 0 17).size =17:=by rw[ByteArray.size_extract];omega
 rw[xE _ _ _ _ om,if_pos om,xE _ _ _ _ ht,if_pos om,Nat.zero_add,Nat.zero_add]
theorem aCt(t:ByteArray)(lb:Nat)(ht:t.size<17)(hc:aj w lb 0 (.string t)):
  QR 136 #[.pointer (some ⟨lb,0,none⟩)] w (.tuple #[P8 0 0 0,.bool false]):=by
 have h1:(t.size:Int)<17:=om;have hcA:=oD hc;have hlb:=au hc;go_enter func136,ntmps136;go_wp2;go_returns;exact⟨rfl,kr⟩
theorem ZM(t:ByteArray)(lb:Nat)(ht:17<=t.size)(hs:t.size<=1048576)(hc:aj w lb 0 (.string t))(hz:bG w lb 0):
  CT 136 #[.pointer (some ⟨lb,0,none⟩)] w fun e w'=>e=.returned (.tuple #[P8 (num t 0 8) (kS t 8) (num t 9 8),.bool true])/\Gr (w.setCell ⟨lb,0,none⟩ (.string (t.extract 17 t.size))) w':=by
 have h1:¬(t.size:Int)<17:=om;have hcA:=oD hc;have hzA:=Iq hz;have hlb:=au hc;have h2:(17:Int)<=t.size:=om;have z1:(t.extract 0 17).size =17:=by rw[ByteArray.size_extract];omega
 have z2:((t.extract 0 17).extract 9 17).size =8:=by rw[ByteArray.size_extract];omega
 have D1:KW 137 #[.string (t.extract 0 17)] (Z (num t 0 8)):=fun w=>(aAK (t.extract 0 17) om om w).mono fun e w' hh=>⟨hh.1.trans (by rw[aIm t ht]),hh.2⟩;have D2:KW 137 #[.string ((t.extract 0 17).extract 9 17)] (Z (num t 9 8)):=fun w=>(aAK ((t.extract 0 17).extract 9 17) om om w).mono fun e w' hh=>⟨hh.1.trans (by rw[aIk t ht]),hh.2⟩;have q:∀w,(Instr.index 9 (.string (t.extract 0 17)) (J 8)).run Tryz.prog w=.ok (.int .u8 (kS t 8)) w:=fun w=>(DZ (t.extract 0 17) 8 om w).trans (by rw[aIl t ht]);have q1:∀w,(Instr.slice 9 (.string t) none (some (J 17)) none).run Tryz.prog w=.ok (.string (t.extract 0 17)) w:=fun w=>run_slice_string_h w 9 t Tryz.underlying9 .i64 17 om h2;have q2:∀w,(Instr.slice 9 (.string t) (some (J 17)) none none).run Tryz.prog w=.ok (.string (t.extract 17 t.size)) w:=fun w=>run_slice_string_l w 9 t Tryz.underlying9 .i64 17 om h2;have q3:∀w,(Instr.slice 9 (.string (t.extract 0 17)) (some (J 9)) none none).run Tryz.prog w=.ok (.string ((t.extract 0 17).extract 9 17)) w:=fun w=>by
  have:=run_slice_string_l w 9 (t.extract 0 17) Tryz.underlying9 .i64 9 om (by rw[z1];omega);rw[z1]at this;exact this
 generalize t.extract 17 t.size=t' at*
 generalize(t.extract 0 17).extract 9 17=t2 at*
 generalize t.extract 0 17=t1 at*
 go_enter func136,ntmps136;go_upto_region 5 with fail;have hsz:(w.setCell ⟨lb,0,none⟩ (.string t')).heap.size =w.heap.size:=World.size_setCell ..;rw[<-hsz];obtain⟨W,hW⟩:∃W,w.setCell ⟨lb,0,none⟩ (.string t')=W:=⟨_,rfl⟩;have hGW:Gr (w.setCell ⟨lb,0,none⟩ (.string t')) W:=by rw[hW];exact Gr.refl _
 rw[hW];clear hW;clear hc hz hcA hzA hsz hlb q1 q2;go_region_held3 (fun w'=>True)
  (trivial)
  (first
   |(go_at_call 137;first|(with_reducible refine kw (D1.out _) ?_)|(with_reducible refine kw (D2.out _) ?_)))
 all_goals go_wp2
 all_goals go_returns
 all_goals exact⟨rfl,kr⟩
theorem Vf(t:ByteArray)(w:World):
  CT 69 #[.string t] w fun e w'=>e=.returned (.func (.func 136) #[] #[.pointer (some ⟨w.heap.size,0,none⟩)])/\w'=w.alloc (.cells #[.string t] 9):=by
 go_enter func69,ntmps69;go_wp2;go_returns;exact⟨rfl,rfl⟩
theorem nT:∀(z fl:Int) (w:World),(Instr.field 56 (aK z fl) 0).run Tryz.prog w=.ok (Z z) w:=fun z fl w=>by kernel_rfl
theorem oI{o:O7}(H:o.S)(HI:o.In)(ha:Wo a)(lo hi cl ch:Int)(l0:-9223372036854775808<=lo)(l1:lo<=9223372036854775807)(h0:-9223372036854775808<=hi)(h1:hi<=9223372036854775807)(hl:o.mul (o.int lo) qR=cl)(hh:o.mul (o.int hi) qR=ch)(HU:bD 1 a c s x g)(r:Bool)
  (hr:r=(!decide (1<c)&&(decide (0<=uU a cl)&&decide (uU a ch<=0)))) (w:World):
  QB 56 #[Z a,J lo,J hi] w (.bool r):=by
 have HW1:KB 40 #[J lo] (Z (o.int lo)):=H.word.out lo l0 l1;have HW2:KB 40 #[J hi] (Z (o.int hi)):=H.word.out hi h0 h1;have HH:=H.half;have PE:KB 42 #[Z (o.int lo),Z qR] (Z cl):=by rw[<-hl];exact H.times.out _ _ (HI.int lo) (Wo.c _)
 have PD:KB 42 #[Z (o.int hi),Z qR] (Z ch):=by rw[<-hh];exact H.times.out _ _ (HI.int hi) (Wo.c _)
 have HO1:KW 116 #[J 1,Z a,Z cl] (J (uU a cl)):=H.order.out a cl ha (by rw[<-hl];exact HI.mul (HI.int lo) (Wo.c _));have HO2:KW 116 #[J 1,Z a,Z ch] (J (uU a ch)):=H.order.out a ch ha (by rw[<-hh];exact HI.mul (HI.int hi) (Wo.c _));generalize o.int lo=u1 at*
 generalize o.int hi=u2 at*
 generalize uU a cl=q1 at*
 generalize uU a ch=q2 at*
 clear H HI hl hh l0 l1 h0 h1 ha;rcases(show(1<c/\r=false)\/(¬1<c/\¬0<=q1/\r=false)\/(¬1<c/\0<=q1/\r=decide (q2<=0)) by
  by_cases c1:1<c
  ·exact .inl ⟨c1,by rw[hr];simp[c1]⟩
  ·by_cases c2:0<=q1
   ·exact .inr (.inr ⟨c1,c2,by rw[hr];simp[c1,c2]⟩)
   ·exact .inr (.inl ⟨c1,c2,by rw[hr];simp[c2]⟩))with⟨c1,rfl⟩|⟨c1,c2,rfl⟩|⟨c1,c2,rfl⟩
 ·clear hr;go_enter func56,ntmps56;go_wp2_with (go_at_call 57;refine ku (HU _) fun w1 ak=>?_);go_returns;exact⟨rfl,kg⟩
 all_goals
  clear hr;go_enter func56,ntmps56;go_upto_region 4 with(go_at_call 57;refine ku (HU _) fun w1 ak=>?_);go_wp2_with (first
   |(go_at_call 40;first|(with_reducible refine ku (HW1.out _) fun w2 aA=>?_)|(with_reducible refine ku (HW2.out _) fun w5 aO=>?_))
   |(go_at_call 44;refine ku (HH _) fun w3 aC=>?_)
   |(go_at_call 42;first|(with_reducible refine ku (PE.out _) fun w4 aH=>?_)|(with_reducible refine ku (PD.out _) fun w6 bJ=>?_))
   |(go_at_call 116;first|(with_reducible refine kw (HO1.out _) ?_)|(with_reducible refine kw (HO2.out _) ?_)))
  go_returns;exact⟨rfl,kg⟩
theorem UD{o:O7}(H:o.S)(HI:o.In)(ha:Wo a)(n t cn:Int)(hc:Wo cn)(HT:KW 120 #[J n] (Z t))(HF:Hid (∀w,CT 36 #[J 1,J 0,J 3,Z t] w fun e w'=>∃fl:Int,e=.returned (aK cn fl)/\Gb w w'))
   (HU:bD 1 a c s x g) (r:Int) (hr:s=1/\r=0\/s=0/\r=o.fix (o.mul a cn)) (w:World):
  QB 128 #[Z a,J n] w (Z r):=by
 have hf:=nT;have HM:KB 42 #[Z a,Z cn] (Z (o.mul a cn)):=H.times.out _ _ ha hc;have HX:Hid (∀w,CT 63 #[J 1,J 2,J 3,Z (o.mul a cn)] w fun e w'=>∃fl:Int,e=.returned (aK (o.fix (o.mul a cn)) fl)/\Gb w w'):=H.fix.out _ (HI.mul ha hc);clear H HI ha hc;rcases hr with⟨rfl,rfl⟩|⟨rfl,rfl⟩
 ·go_enter func128,ntmps128;go_wp2_with (go_at_call 57;refine ku (HU _) fun w1 ak=>?_);go_returns;exact⟨rfl,kg⟩
 ·generalize o.fix (o.mul a cn)=r at*
  generalize o.mul a cn=m at*
  go_enter func128,ntmps128;go_upto_region 4 with(go_at_call 57;refine ku (HU _) fun w1 ak=>?_);go_wp2_with (first
   |(go_at_call 120;refine kw (HT _) ?_)
   |(go_at_call 36;refine(HF _).mono ?_;rintro e w3 ⟨f3,rfl,aC⟩)
   |(go_at_call 42;refine ku (HM _) fun w4 aH=>?_)
   |(go_at_call 63;refine(HX _).mono ?_;rintro e w5 ⟨f5,rfl,aO⟩))
  go_returns;exact⟨rfl,kg⟩
theorem aCS{o:O7}(H:o.S)(HI:o.In)(ha:Wo a)(hq:9223372036854775808<=a->a%9223372036854775808<=9218868437227405312)(w:World):
  QB 128 #[Z a,J 32] w (Z (o.fix (o.mul a c32))):=by
 obtain⟨c,s,x,g,hu,HU⟩:=H.unp ha;refine UD H HI ha 32 4294967296 c32 (Wo.c _) (fun w=>gX 32 _ om de w) H.aAF HU _ ?_ w;obtain⟨h1,h2,h3,h4⟩:=hu;rcases h1 with h1|h1
 ·exact .inr ⟨h1,rfl⟩
 ·exact .inl ⟨h1,H.neg ha (h4 h1) (hq (h4 h1))⟩
theorem aCR{o:O7}(H:o.S)(HI:o.In)(h0:0<=a)(h1:a<9223372036854775808)(w:World):
  QB 128 #[Z a,J 63] w (Z (o.shr a)):=by
 have ha:Wo a:=⟨h0,om⟩;obtain⟨c,s,x,g,hu,HU⟩:=H.unp ha;refine UD H HI ha 63 9223372036854775808 c63 (Wo.c _) (fun w=>gX 63 _ om de w) H.aAE HU _ ?_ w;obtain⟨k1,k2,k3,k4⟩:=hu;rcases k1 with k1|k1
 ·exact .inr ⟨k1,rfl⟩
 ·have:=k4 k1;omega
theorem Xn{o:O7}(H:o.S)(HI:o.In)(z:Int)(n:Nat)(hn:n<=18)(z0:-18<=z)(z1:z<=19){r:Int}(hr:Wo r)(hh:Wo h)(s0:0<=sc)(s1:sc<9223372036854775808)(hv:Wo v)(w:World):
  QB 62 #[J z,J n,Z r,Z h,Z sc,Z v] w (.bool (o.acc z n r h (o.shr sc) v)):=by
 have hf:=nT;have hd:=HI.sub (HI.int z) hr;have hdd:=HI.mul hd hd;have hm:=HI.mul hdd hh;have hq:Wo (4593671619917905920:Int):=Wo.c _;have hi:=HI.int ((n:Int)*n);have hmi:=HI.mul hi hq;have hx:=HI.sub hm hmi;have hy:=HI.fix (HI.mul hx (Wo.c c32));have HD:KR 127 #[Z (o.fix (o.mul (o.DK z n r h) c32))] (Z (jV (o.fix (o.mul (o.DK z n r h) c32)))):=aC0 _ hy.1 hy.2;have HP:KR 126 #[Z (jV (o.fix (o.mul (o.DK z n r h) c32))),Z (o.shr sc)] (Z (o.leaves z n r h (o.shr sc))):=by
  have d:=II (o.fix (o.mul (o.DK z n r h) c32));have e:=HI.fix (HI.mul (show Wo sc from ⟨s0,om⟩) (Wo.c c63));exact Zz _ _ d.1 om e.1 e.2
 have HX:KB 128 #[Z (o.DK z n r h),J 32] (Z (o.fix (o.mul (o.DK z n r h) c32))):=aCS H HI hx (HI.aHg hm hmi);have HE:KB 128 #[Z sc,J 63] (Z (o.shr sc)):=aCR H HI s0 s1;have HW1:KB 40 #[J z] (Z (o.int z)):=H.word.out z om om;have nn:(n:Int)*n<=18*18:=Int.mul_le_mul om om om om;have nn0:0<=(n:Int)*n:=Int.mul_nonneg om om;obtain⟨N,hN⟩:∃N,(n:Int)*n=N:=⟨_,rfl⟩;have HW2:KB 40 #[J N] (Z (o.int N)):=H.word.out N om om;have HH:=H.half;have Pz:KB 59 #[Z (o.int z),Z r] (Z (o.sub (o.int z) r)):=H.minus.out _ _ (HI.int z) hr;have HT:=H.times;have HQ1:KB 42 #[Z qR,Z qR] (Z 4598175219545276416):=by rw[<-H.k6];exact HT _ _ (Wo.c _) (Wo.c _)
 have HQ2:KB 42 #[Z 4598175219545276416,Z qR] (Z 4593671619917905920):=by rw[<-H.k7];exact HT _ _ (Wo.c _) (Wo.c _)
 have HS2:KB 59 #[Z (o.mul (o.mul (o.sub (o.int z) r) (o.sub (o.int z) r)) h),Z (o.mul (o.int N) 4593671619917905920)] (Z (o.DK z n r h)):=by rw[<-hN];exact H.minus.out _ _ hm hmi
 have PE:KB 42 #[Z (o.sub (o.int z) r),Z (o.sub (o.int z) r)] (Z (o.mul (o.sub (o.int z) r) (o.sub (o.int z) r))):=HT _ _ hd hd;have PD:KB 42 #[Z (o.mul (o.sub (o.int z) r) (o.sub (o.int z) r)),Z h] (Z (o.mul (o.mul (o.sub (o.int z) r) (o.sub (o.int z) r)) h)):=HT _ _ hdd hh;have HM3:KB 42 #[Z (o.int N),Z 4593671619917905920] (Z (o.mul (o.int N) 4593671619917905920)):=by rw[<-hN];exact HT _ _ hi hq
 have HR:Hid (o.acc z n r h (o.shr sc) v=decide (v/2<o.leaves z n r h (o.shr sc))):=rfl;have v0:=hv.1;have v1:=hv.2;generalize o.acc z n r h (o.shr sc) v=b at*
 generalize o.leaves z n r h (o.shr sc)=lv at*
 generalize o.shr sc=es at*
 generalize jV (o.fix (o.mul (o.DK z n r h) c32))=dy at*
 generalize o.fix (o.mul (o.DK z n r h) c32)=fx at*
 generalize o.DK z n r h=xx at*
 generalize o.mul (o.int N) 4593671619917905920=mi at*
 generalize o.mul (o.mul (o.sub (o.int z) r) (o.sub (o.int z) r)) h=mh at*
 generalize o.mul (o.sub (o.int z) r) (o.sub (o.int z) r)=dd at*
 generalize o.sub (o.int z) r=d at*
 generalize o.int N=iN at*
 generalize o.int z=iz at*
 clear HT H HI hr hh hd hdd hm hq hi hmi hx hy;go_enter func62,ntmps62;go_upto_region 2 with(first
   |(go_at_call 40;refine ku (HW1 _) fun w1 ak=>?_)
   |(go_at_call 59;refine ku (Pz _) fun w2 aA=>?_))
 go_upto_region 3 with(first
   |(go_at_call 44;refine ku (HH _) fun w3 aC=>?_)
   |(go_at_call 42;first|(with_reducible refine ku (HQ1.out _) fun w4 aH=>?_)|(with_reducible refine ku (HQ2.out _) fun w5 aO=>?_)))
 go_upto_region 4 with(first
   |(go_at_call 40;refine ku (HW2 _) fun w6 bJ=>?_)
   |(go_at_call 42;first|(with_reducible refine ku (PE.out _) fun w7 dZ=>?_)|(with_reducible refine ku (PD.out _) fun w8 kY=>?_)|(with_reducible refine ku (HM3.out _) fun w9 aU=>?_))
   |(go_at_call 59;refine ku (HS2 _) fun wa yA=>?_))
 go_wp2_with (first
   |(go_at_call 128;first|(with_reducible refine ku (HX.out _) fun wb lG=>?_)|(with_reducible refine ku (HE.out _) fun wc aAq=>?_))
   |(go_at_call 127;refine ku (HD _) fun wd Uz=>?_)
   |(go_at_call 126;refine ku (HP _) fun we Iz=>?_))
 go_returns;obtain rfl:=HR.out;exact⟨rfl,kg⟩
