import Derived.Test.YthoelefkjpjhfaaGreatDoorG5
import Derived.Deep.Cut
set_option linter.all false
open Go.Proofs.YthoelefkjpjhfaaGreatDoor renaming vI → J, vU → Z
open Go.Proofs.Tryz
namespace Go.Proofs.YthoelefkjpjhfaaGreatDoor
open Go.RowKit
attribute [local go_sem] aA dB
variable{w:World}{a c h v s x g f p mx one aI sg nan mu inv scale e u sc:Int}{r P n M:Nat}{t:ByteArray}
def yV(h:r<=2^P):nb r<=P+1:=sW (by have:=fZ (om:P<=P+1);rw[Nat.pow_succ]at*;have:=Nat.pow_pos (n:=P) (show 0<2 by decide);omega)
def V9(h:r<2^P):nb r<=P:=sW h
def I5(h:bD f p mx one aI sg nan){v:Value}(hB:Big w v n M)(hn:n<=100000)(hM:0<M)(Tf:nb M<=3200000)
  (aj aJ e:Int) (rest:Bool) (m0:0<=aj) (m1:aj<=4) (hs:aJ=0\/aJ=1) (e0:-900000<=e) (e1:e<=900000) (hst:rest=true->p+2<=nb M):
  CT 138 #[J f,J aj,.agg #[J aJ,v,J e,.bool rest]] w λx w'=>∃z fl,bH p (1-mx) mx one aI aj aJ M e rest z fl/\0<=z/\z<sg/\x=.returned (aP (sw aJ sg z) fl)/\Gb w w':=by
 obtain⟨b1,b2,b3,b4,b5,b6,b7,b8,b9,b10,b11,b12⟩:=h.bounds;obtain⟨mn,zU⟩:=dK (1-mx);have HR:Hid (RC f p mn mx one aj aJ w):=aOD h zU aj aJ m0 m1 hs w;have HB:Hid (aH 100000 w v M):=⟨n,hn,hB⟩;have wG:-1022<=mn/\mn<=-126:=om;obtain⟨P,hP,aJu,AQ⟩:=h.pow;have Qu:one=((2^P:Nat):Int):=by rw[AQ];push_cast;rfl
 have u_:aI=one*(2*mx+1):=by rcases h with⟨rfl,rfl,rfl,rfl,rfl,rfl,rfl⟩|⟨rfl,rfl,rfl,rfl,rfl,rfl,rfl⟩<;>decide
 have hov:0<=jE aI aj aJ/\jE aI aj aJ<sg:=by unfold jE;split<;>omega
 have hP2:2^P<=4503599627370496:=om;have aBm:2^(P+1)=2*2^P:=by rw[Nat.pow_succ];omega
 have BG:KR 222 #[J f,J aj,J aJ] (aP (sw aJ sg (jE aI aj aJ)) 20):=λw'=>ZG h aj aJ _ m0 m1 (by
  unfold sw;rcases hs with rfl|rfl
  .exact .inl ⟨rfl,by simp⟩
  .exact .inr ⟨rfl,by simp⟩) w'
 have uq:∀z:Int,0<=z->z<sg->yA f aJ z (sw aJ sg z):=λz z0 z1 w'=>vZ h aJ z _ (by
  unfold sw;rcases hs with rfl|rfl
  .exact .inl ⟨rfl,by simp⟩
  .exact .inr ⟨rfl,by simp⟩) z0 z1 w'
 obtain⟨b_,iT⟩:=x_n (nb M+e-1:Int);have jm:=BP M hM;rw[zU];have nU:∀q:Int,-1000000<=q->q<=1000000->Hid (∀w',Gb w w'->CT 223 #[.agg #[J aJ,v,J e,.bool rest],J q] w' λx aT=>∃vL,x=.returned (.tuple #[vL,J (bg M e q rest:Int)])/\aH 180000 aT vL (dw M e q)/\Gb w' aT):=λq q0 q1 w' hg=>
  (FD (hB.gb hg) hn aJ e q rest om om q0 q1).mono (λx aT ⟨vL,k,a1,a2,a3,a4⟩=>⟨vL,a1,⟨k,om,a2⟩,a4⟩)
 by_cases ho:mx<b_
 .refine(aDk HB HR b1 b2 wG.1 wG.2 b3 b4 om b6 om om om (nb M+e) b_ rfl om _ BG ho).mono ?_;rintro x w' ⟨rfl,hg⟩;by_cases hc:b_<mn
  .exact⟨_,_,⟨b_,mn,_,_,_,iT,.inl ⟨hc,rfl⟩,rfl,rfl,rfl,.inl ⟨ho,rfl,rfl⟩⟩,hov.1,hov.2,rfl,hg⟩
  .exact⟨_,_,⟨b_,b_,_,_,_,iT,.inr ⟨om,rfl⟩,rfl,rfl,rfl,.inl ⟨ho,rfl,rfl⟩⟩,hov.1,hov.2,rfl,hg⟩
 by_cases aGJ:b_<mn-p-2
 ·--far below
  have aGM:=aBv M e (mn-p+1) rest hM om;have aLU:∀q:Int,-1000000<=q->q<=1000000->Hid (∀v1 w',aH 100000 w' v1 1->CT 223 #[.agg #[J aJ,v1,J (mn-p-2),.bool true],J q] w' λx aT=>∃vL,x=.returned (.tuple #[vL,J (bg 1 (mn-p-2) q true:Int)])/\aH 180000 aT vL (dw 1 (mn-p-2) q)/\Gb w' aT):=λq q0 q1 v1 w' ⟨k1,jB,gU⟩=>
   (FD gU jB aJ (mn-p-2) q true om om q0 q1).mono (λx aT ⟨vL,k,a1,a2,a3,a4⟩=>⟨vL,a1,⟨k,om,a2⟩,a4⟩)
  have h1:nb 1=1:=de;have aLT:=aBv 1 (mn-p-2) (mn-p+1) true de (by rw[h1];omega);have tK:=kQ aj aJ 0 1;have aPC:=qW 1 (mn-p-2) (mn-p-2-p+1) p.toNat (by rw[h1];omega);have qU:=kQ aj aJ (dw 1 (mn-p-2) (mn-p-2-p+1)) (bg 1 (mn-p-2) (mn-p-2-p+1) true);have aR8:=yV (r:=chosen aj aJ (dw 1 (mn-p-2) (mn-p-2-p+1)) (bg 1 (mn-p-2) (mn-p-2-p+1) true)) (P:=p.toNat) om;have aUu:=yV (r:=chosen aj aJ 0 1) (P:=0) om;have HP':=uq (chosen aj aJ 0 1:Nat) om om;have hC1:=aLU (mn-p+1) om om;rw[aLT.1,aLT.2]at hC1;refine(aDl HB HR b1 b2 wG.1 wG.2 b3 b4 om b6 om om om (nb M+e) b_ rfl om aGJ 0 1 hC1 om (chosen aj aJ 0 1) rfl om om _ HP' om
   _ _ (mn-p-2-p+1) (mn-p-2-p) rfl rfl (aLU (mn-p-2-p+1) om om) (iy _ _ _ _) _ rfl om om).mono ?_
  rintro x w' ⟨rfl,hg⟩;refine⟨_,_,⟨b_,mn,_,_,_,iT,.inl ⟨om,rfl⟩,rfl,rfl,rfl,.inr (.inr ⟨om,?_,?_,.inr (.inl ⟨?_,.inl om,rfl⟩)⟩)⟩,?_,?_,rfl,hg⟩
  .rw[aGM.1,aGM.2];simp;omega
  .rw[aGM.1,aGM.2];simp
  .rw[aGM.2];decide
  .omega
  .omega
 .by_cases hS:b_<mn
  ·--below 2^mn
   have Uf:=qW M e (mn-p+1) P om;have hrl:=kQ aj aJ (dw M e (mn-p+1)) (bg M e (mn-p+1) rest);obtain⟨r,hr⟩:=dK (chosen aj aJ (dw M e (mn-p+1)) (bg M e (mn-p+1) rest));obtain⟨r2,qU⟩:=dK (chosen aj aJ (dw M e (b_-p+1)) (bg M e (b_-p+1) rest));rw[hr]at hrl;have hrP:r<=2^P:=om;have aR7:=yV hrP;have aPC:=qW M e (b_-p+1) (P+1) om;have aRX:=kQ aj aJ (dw M e (b_-p+1)) (bg M e (b_-p+1) rest);rw[qU]at aRX;have aRZ:r2<=2^(P+1):=om;have aTo:=yV aRZ;have HP':=uq (r:Int) om om;have Jb:(r:Int)+one*(mn-mn)<aI:=by rw[Int.sub_self,Int.mul_zero];omega
   have hz:((r:Nat):Int)=(r:Int)+one*(mn-mn):=by rw[Int.sub_self,Int.mul_zero];omega
   rcases Nat.eq_zero_or_pos (bg M e (mn-p+1) rest)with c|c
   .refine(ZE HB HR b1 b2 wG.1 wG.2 b3 b4 om b6 om om om (nb M+e) b_ rfl om om hS _ _ (nU (mn-p+1) om om) (iy _ _ _ _) r hr om _ HP' om om).mono ?_;rintro x w' ⟨rfl,hg⟩;exact⟨_,_,⟨b_,mn,r,r2,_,iT,.inl ⟨hS,rfl⟩,rfl,hr.symm,qU.symm,.inr (.inr ⟨om,Jb,hz,.inl ⟨c,rfl⟩⟩)⟩,om,om,rfl,hg⟩
   .by_cases JG:(nb r2:Int)+b_-p<mn
    .refine(ZC HB HR b1 b2 wG.1 wG.2 b3 b4 om b6 om om om (nb M+e) b_ rfl om om hS _ _ (nU (mn-p+1) om om) (iy _ _ _ _) r hr om _ HP' om om _ _ (b_-p+1) (b_-p) rfl rfl (nU (b_-p+1) om om) (iy _ _ _ _) r2 qU om JG).mono ?_;rintro x w' ⟨rfl,hg⟩;refine⟨_,_,⟨b_,mn,r,r2,_,iT,.inl ⟨hS,rfl⟩,rfl,hr.symm,qU.symm,.inr (.inr ⟨om,Jb,hz,.inr (.inl ⟨c,?_,rfl⟩)⟩)⟩,om,om,rfl,hg⟩;by_cases ht1:b_=mn-1
     .refine .inr ⟨ht1,?_⟩;have:r2<2^(P+1):=by
       rcases Nat.lt_or_ge r2 (2^(P+1))with k|k
       .exact k
       .have:=yg k;omega
      omega
     .exact .inl om
    .refine(ZB HB HR b1 b2 wG.1 wG.2 b3 b4 om b6 om om om (nb M+e) b_ rfl om om hS _ _ (nU (mn-p+1) om om) (iy _ _ _ _) r hr om _ HP' om om _ _ (b_-p+1) (b_-p) rfl rfl (nU (b_-p+1) om om) (iy _ _ _ _) r2 qU om om).mono ?_;rintro x w' ⟨rfl,hg⟩;refine⟨_,_,⟨b_,mn,r,r2,_,iT,.inl ⟨hS,rfl⟩,rfl,hr.symm,qU.symm,.inr (.inr ⟨om,Jb,hz,.inr (.inr ⟨c,.inr ⟨om,?_⟩,rfl⟩)⟩)⟩,om,om,rfl,hg⟩;have:2^(P+1)<=r2:=by
      rcases Nat.lt_or_ge r2 (2^(P+1))with k|k
      .have:=V9 k;omega
      .exact k
     omega
  ·--from 2^mn on
   have Uf:=qW M e (b_-p+1) (P+1) om;have hge:=NV M e (b_-p+1) P hM om;have hrl:=kQ aj aJ (dw M e (b_-p+1)) (bg M e (b_-p+1) rest);obtain⟨r,hr⟩:=dK (chosen aj aJ (dw M e (b_-p+1)) (bg M e (b_-p+1) rest));rw[hr]at hrl;have aR7:=yV (r:=r) (P:=P+1) om;have aUt:=yg (N:=r) (k:=P) om;obtain⟨Y,hY⟩:=dK (one*(b_-mn));have hYb:0<=Y/\Y<=one*(mx-mn):=by
    rw[<-hY];exact⟨Int.mul_nonneg om om,Int.mul_le_mul_of_nonneg_left om om⟩
   have hYm:one*(mx-mn)=aI-2*one:=by rw[u_,(om:mx-mn=(2*mx+1)-2),Int.mul_sub,Int.mul_comm one 2]
   have hYs:b_<mx->Y<=aI-3*one:=by
    intro k;have:Y<=one*(mx-1-mn):=by rw[<-hY];exact Int.mul_le_mul_of_nonneg_left om om
    rw[(om:mx-1-mn=(2*mx+1)-3),Int.mul_sub,<-u_,Int.mul_comm one 3]at this;omega
   by_cases aR3:mx<(nb r:Int)+(b_-p+1)-1
   .have hrr:r=2^(P+1)/\b_=mx:=by
     have hb:P+1<nb r:=om;have:2^(P+1)<=r:=by
      rcases Nat.lt_or_ge r (2^(P+1))with k|k
      .have:=V9 k;omega
      .exact k
     omega
    refine(Zy HB HR b1 b2 wG.1 wG.2 b3 b4 om b6 om om om (nb M+e) b_ rfl om om om _ _ (nU (b_-p+1) om om) (iy _ _ _ _) r hr om om _ BG aR3).mono ?_;rintro x w' ⟨rfl,hg⟩;refine⟨_,_,⟨b_,b_,r,r,_,iT,.inr ⟨om,rfl⟩,rfl,hr.symm,hr.symm,.inr (.inl ⟨om,?_,rfl,rfl⟩)⟩,hov.1,hov.2,rfl,hg⟩;rw[hY];have:Y=one*(mx-mn):=by rw[<-hY,hrr.2]
    omega
   .have fF:(r:Int)+Y<aI:=by
     rcases Nat.lt_or_ge r (2^(P+1))with k|k
     .omega
     .have:=yg k;have:=hYs om;omega
    have hz:(r:Int)+Y=(r:Int)+one*(b_-mn):=by rw[hY]
    have Jb:(r:Int)+one*(b_-mn)<aI:=by rw[hY];exact fF
    by_cases hE:b_=mn
    .have hY0:Y=0:=by rw[<-hY,hE,Int.sub_self,Int.mul_zero]
     have HP':=uq (r:Int) om om;have hz':(r:Int)=(r:Int)+one*(b_-mn):=by rw[hY];omega
     rcases Nat.eq_zero_or_pos (bg M e (b_-p+1) rest)with c|c
     .refine(WB HB HR b1 b2 wG.1 wG.2 b3 b4 om b6 om om om (nb M+e) b_ rfl om om om om _ _ (nU (b_-p+1) om om) (iy _ _ _ _) r hr om om _ HP' om om).mono ?_;rintro x w' ⟨rfl,hg⟩;exact⟨_,_,⟨b_,b_,r,r,_,iT,.inr ⟨om,rfl⟩,rfl,hr.symm,hr.symm,.inr (.inr ⟨om,Jb,hz',.inl ⟨c,rfl⟩⟩)⟩,om,om,rfl,hg⟩
     .refine(WA HB HR b1 b2 wG.1 wG.2 b3 b4 om b6 om om om (nb M+e) b_ rfl om (b_-p+1) (b_-p) rfl rfl om om om _ _ (nU (b_-p+1) om om) (iy _ _ _ _) r hr om om _ HP' om om _ _ (nU (b_-p+1) om om) (iy _ _ _ _) r hr om om).mono ?_;rintro x w' ⟨rfl,hg⟩;exact⟨_,_,⟨b_,b_,r,r,_,iT,.inr ⟨om,rfl⟩,rfl,hr.symm,hr.symm,.inr (.inr ⟨om,Jb,hz',.inr (.inr ⟨c,.inl om,rfl⟩)⟩)⟩,om,om,rfl,hg⟩
    .have HP':=uq ((r:Int)+Y) om om;have hYw:IntKind.u64.wrap (one*(b_-p+1-(mn-p+1)))=Y:=by
      rw[(om:b_-p+1-(mn-p+1)=b_-mn),hY,IntKind.wrap_u64];omega
     rcases Nat.eq_zero_or_pos (bg M e (b_-p+1) rest)with c|c
     .refine(ZA HB HR b1 b2 wG.1 wG.2 b3 b4 om b6 om om om (nb M+e) b_ rfl om om om _ _ (nU (b_-p+1) om om) (iy _ _ _ _) r hr om om _ Y hYw om om HP' om om).mono ?_;rintro x w' ⟨rfl,hg⟩;exact⟨_,_,⟨b_,b_,r,r,_,iT,.inr ⟨om,rfl⟩,rfl,hr.symm,hr.symm,.inr (.inr ⟨om,Jb,hz,.inl ⟨c,rfl⟩⟩)⟩,om,om,rfl,hg⟩
     .refine(Zz HB HR b1 b2 wG.1 wG.2 b3 b4 om b6 om om om (nb M+e) b_ rfl om (b_-p+1) (b_-p) rfl rfl om om om _ _ (nU (b_-p+1) om om) (iy _ _ _ _) r hr om om _ Y hYw om om HP' om om _ _ (nU (b_-p+1) om om) (iy _ _ _ _) r hr om om).mono ?_;rintro x w' ⟨rfl,hg⟩;exact⟨_,_,⟨b_,b_,r,r,_,iT,.inr ⟨om,rfl⟩,rfl,hr.symm,hr.symm,.inr (.inr ⟨om,Jb,hz,.inr (.inr ⟨c,.inl om,rfl⟩)⟩)⟩,om,om,rfl,hg⟩
set_option maxRecDepth 1000000
set_option maxHeartbeats 40000000
def Qp(hm:Wo mu)(hi:Wo inv)(hs:Wo scale)(hw:Fm w):
  QR 199 #[Z mu,Z inv,Z scale] w (.bool (isC mu inv scale)):=by
 have HM:KR 272 #[jX 53 (-1022) 1023,Z mu] (Z (mu%9223372036854775808)):=λw=>A8 (.inr ⟨rfl,rfl,rfl,rfl,rfl,rfl,rfl,rfl,rfl⟩) mu hm.1 (by have:=hm.2;omega) w;obtain⟨c0,c1,c2,c3,c4,c5⟩:=hw;have hC:isC mu inv scale=(decide (mu%9223372036854775808<=4787326403894837248)&&(decide (vC<=inv)&&decide (inv<=4607182418800017408))&&(decide (0<scale)&&decide (scale<=4607182418800017408))):=rfl;have m0:0<=mu%9223372036854775808:=om;have i0:=hi.1;have i1:=hi.2;have s0:=hs.1;have s1:=hs.2;unfold vC at hC;generalize isC mu inv scale=b at*
 generalize mu%9223372036854775808=m at*
 clear hm hi hs;rcases(show(¬m<=4787326403894837248/\b=false)\/(m<=4787326403894837248/\¬4602678819172646912<=inv/\b=false)\/(m<=4787326403894837248/\4602678819172646912<=inv/\¬inv<=4607182418800017408/\b=false)\/(m<=4787326403894837248/\4602678819172646912<=inv/\inv<=4607182418800017408/\¬0<scale/\b=false)\/(m<=4787326403894837248/\4602678819172646912<=inv/\inv<=4607182418800017408/\0<scale/\b=decide (scale<=4607182418800017408)) by
  rw[hC];by_cases a1:m<=4787326403894837248
  .by_cases a2:4602678819172646912<=inv
   .by_cases a3:inv<=4607182418800017408
    .by_cases a4:0<scale
     .exact .inr (.inr (.inr (.inr ⟨a1,a2,a3,a4,by simp[a1,a2,a3,a4]⟩)))
     .exact .inr (.inr (.inr (.inl ⟨a1,a2,a3,a4,by simp[a4]⟩)))
    .exact .inr (.inr (.inl ⟨a1,a2,a3,by simp[a3]⟩))
   .exact .inr (.inl ⟨a1,a2,by simp[a2]⟩)
  .exact .inl ⟨a1,by simp[a1]⟩)with⟨a1,rfl⟩|⟨a1,a2,rfl⟩|⟨a1,a2,a3,rfl⟩|⟨a1,a2,a3,a4,rfl⟩|⟨a1,a2,a3,a4,rfl⟩
 all_goals
  clear hC;go_enter func199,ntmps199;go_wp2_with (go_at_call 272;refine ku (HM _) λw1 ak=>?_);go_returns;exact⟨rfl,ak⟩
abbrev aQj(a b c:Int):Value:=.agg #[Z a,Z b,Z c]
abbrev Yx(u c v:Int):Value:=.agg #[Z u,.int .u8 c,Z v]
structure Ac (w wx:World) (r h e u c v:Int):Prop where
 g:Gr w wx:=by exact kr
 a0:aA wx w.heap.size 0 (Z r):=by exact kl
 a1:aA wx w.heap.size 1 (Z h):=by exact kl
 a2:aA wx w.heap.size 2 (Z e):=by exact kl
 b0:aA wx (w.heap.size+1) 0 (Z u):=by exact kl
 b1:aA wx (w.heap.size+1) 1 (.int .u8 c):=by exact kl
 b2:aA wx (w.heap.size+1) 2 (Z v):=by exact kl
def aDT{o:O7}(H:o.I)(HI:o.In){r:Int}(hr:Wo r)(hh:Wo h)(he:Wo e)(hu:Wo u)(c0:0<=c)(c1:c<=255)(hv:Wo v)(hw:Fm w)(hT:Tl w)(hD:Dc w):
  QR 204 #[aQj r h e,Yx u c v] w (.tuple #[J (Um (jU u) c),.bool (o.acc (Um (jU u) c) (jU u) r h e v)]):=by
 have HB:Hid (∀w',Gr w w'->QW 275 #[Z u] w' (J (jU u:Nat))):=λw' hg=>aNZ u hu.1 hu.2 (hT.below hg.below);have hn:=Eu u;have hz:=Yc (jU u) c hn;have hzd:Um (jU u) c=if c%2=1 then((jU u:Nat):Int)+1 else-((jU u:Nat):Int):=rfl
 generalize jU u=n at*
 generalize Um n c=z at*
 have hd:=HI.sub (HI.int z) hr;have hdd:=HI.mul hd hd;have hm:=HI.mul hdd hh;have hq:Wo (4593671619917905920:Int):=Wo.c _;have nn:(n:Int)*n<=18*18:=Int.mul_le_mul om om om om;have nn0:0<=(n:Int)*n:=Int.mul_nonneg om om;have hi:=HI.int ((n:Int)*n);have hmi:=HI.mul hi hq;have hx:=HI.sub hm hmi;have hc:Wo c32:=Wo.c _;have Ud:=HI.mul hx hc;have hy:=HI.fix Ud;have hdy:=Qz (o.fix (o.mul (o.JR z n r h) c32));have K1:∀n,-9223372036854775808<=n->n<=9223372036854775807->Hid (∀w',Gr w w'->QR 276 #[J n] w' (Z (o.int n))):=λn a b w' hg=>H.word.out n a b w' (hw.gr hg);have K2:∀a b,Wo a->Wo b->Hid (∀w',Gr w w'->QR 200 #[Z a,Z b] w' (Z (o.sub a b))):=λa b ha hb w' hg=>H.minus.out a b ha hb w' (hw.gr hg);have K3:∀a b,Wo a->Wo b->Hid (∀w',Gr w w'->QR 201 #[Z a,Z b] w' (Z (o.mul a b))):=λa b ha hb w' hg=>H.times.out a b ha hb w' (hw.gr hg);have HW1:=K1 z om om;have X3:=K2 _ _ (HI.int z) hr;have X5:=K3 _ _ hd hd;have Gf:=K3 _ _ hdd hh;obtain⟨N,hN⟩:=dK ((n:Int)*n);have HW2:=K1 ((n:Int)*n) om om;have HM3:=K3 _ _ hi hq;have HS2:Hid (∀w',Gr w w'->QR 200 #[Z (o.mul (o.mul (o.sub (o.int z) r) (o.sub (o.int z) r)) h),Z (o.mul (o.int ((n:Int)*n)) 4593671619917905920)] w' (Z (o.JR z n r h))):=K2 _ _ hm hmi;have HM4:Hid (∀w',Gr w w'->QR 201 #[Z (o.JR z n r h),Z c32] w' (Z (o.mul (o.JR z n r h) c32))):=K3 _ _ hx hc;clear K1 K2 K3;have HF:Hid (∀w',Gr w w'->QR 202 #[Z (o.mul (o.JR z n r h) c32)] w' (Z (o.fix (o.mul (o.JR z n r h) c32)))):=λw' hg=>H.fix.out _ Ud w' (hw.gr hg);have HD:Hid (∀w',Gr w w'->QR 277 #[Z (o.fix (o.mul (o.JR z n r h) c32))] w' (Z (mP (o.fix (o.mul (o.JR z n r h) c32))))):=λw' hg=>aJN _ hy.1 hy.2 (hD.below hg.below);have HP:KR 278 #[Z (mP (o.fix (o.mul (o.JR z n r h) c32))),Z e] (Z (o.leaves z n r h e)):=aAX _ _ hdy.1 om he.1 he.2;have HR:Hid (o.acc z n r h e v=decide (v/2<o.leaves z n r h e)):=rfl;have v0:=hv.1;have v1:=hv.2;have hv2:IntKind.u64.wrap (v.tdiv 2)=v/2:=by rw[Int.tdiv_eq_ediv_of_nonneg v0,IntKind.wrap_u64];omega
 generalize o.acc z n r h e v=bb at*
 generalize o.leaves z n r h e=lv at*
 generalize mP (o.fix (o.mul (o.JR z n r h) c32))=dy at*
 generalize o.fix (o.mul (o.JR z n r h) c32)=fx at*
 generalize o.mul (o.JR z n r h) c32=xc at*
 generalize o.JR z n r h=xx at*
 rw[hN]at HW2 HM3 HS2 nn nn0;have hN2:IntKind.i64.wrap N=N:=wi;generalize o.mul (o.int N) 4593671619917905920=mi at*
 generalize o.mul (o.mul (o.sub (o.int z) r) (o.sub (o.int z) r)) h=mh at*
 generalize o.mul (o.sub (o.int z) r) (o.sub (o.int z) r)=dd at*
 generalize o.sub (o.int z) r=d at*
 generalize o.int N=iN at*
 generalize o.int z=iz at*
 clear hx Ud hy hdy hT hD hw H HI he hu hv hr hh hd hdd hm hq hi hmi hc;rcases(show(c%2=1/\z=(n:Int)+1)\/(c%2=0/\z=-(n:Int)) by
  by_cases h:c%2=1
  .exact .inl ⟨h,by rw[hzd,if_pos h]⟩
  .exact .inr ⟨om,by rw[hzd,if_neg h]⟩)with⟨w_,rfl⟩|⟨w_,rfl⟩
 all_goals
  clear hzd;go_enter func204,ntmps204;go_upto_region 5 with(go_at_call 275;refine kw (HB _ kr) ?_);go_wp2;go_cut [8] (λs8 wx=>s8=Z d/\Ac w wx r h e u c v)
  case first=>
   go_region_held3 (λw'=>jv w' w.heap.size 0 1 2 (Z r) (Z h) (Z e)/\jv w' (w.heap.size+1) 0 1 2 (Z u) (.int .u8 c) (Z v))(exact o8)(first|(go_at_call 276;with_reducible refine ku (HW1.out _ kr) λw2 aB=>?_)|(go_at_call 200;with_reducible refine ku (X3.out _ kr) λw3 aK=>?_))
   all_goals (go_wp2;go_meet)<;>exact⟨rfl,{}⟩
  case rest=>
   obtain⟨rfl,⟨qg,qa0,qa1,qa2,qb0,qb1,qb2⟩⟩:=hcut;go_wp2;go_cut [9] (λs9 wx=>s9=Z xx/\Ac w wx r h e u c v)
   case first=>
    go_region_held3 (λw'=>jv w' w.heap.size 0 1 2 (Z r) (Z h) (Z e)/\jv w' (w.heap.size+1) 0 1 2 (Z u) (.int .u8 c) (Z v))(exact o8)(first|(go_at_call 201;first|(with_reducible refine ku (X5.out _ kr) λw4 aV=>?_)|(with_reducible refine ku (Gf.out _ kr) λw5 bJ=>?_)|(with_reducible refine ku (HM3.out _ kr) λw6 fK=>?_))|(go_at_call 276;with_reducible refine ku (HW2.out _ kr) λw7 ji=>?_)|(go_at_call 200;with_reducible refine ku (HS2.out _ kr) λw8 WX=>?_))
    all_goals (go_wp2;go_meet)<;>exact⟨rfl,{}⟩
   case rest=>
    clear qg qa0 qa1 qa2 qb0 qb1 qb2;obtain⟨rfl,⟨qg,qa0,qa1,qa2,qb0,qb1,qb2⟩⟩:=hcut;go_upto_region 8 with(first|(go_at_call 201;refine ku (HM4 _ qg) λw4 aV=>?_)|(go_at_call 202;refine ku (HF _ kr) λw5 bJ=>?_)|(go_at_call 277;refine ku (HD _ kr) λw6 fK=>?_;have:=fK.C30 w;have:=fK.C31 w))
    go_region_held3 (λw'=>jv w' w.heap.size 0 1 2 (Z r) (Z h) (Z e)/\jv w' (w.heap.size+1) 0 1 2 (Z u) (.int .u8 c) (Z v))(exact o8)(first|(go_at_call 278;with_reducible refine ku (HP.out _) λw7 ji=>?_))
    all_goals go_wp2<;>go_returns
    all_goals
     obtain rfl:=HR.out;exact⟨rfl,kr⟩
def Ep(s:ByteArray)(a b i:Nat)(hb:b<=s.size):g_ (s.extract a b) i=if a+i<b then g_ s (a+i)else 0:=by
 have hz:(s.extract a b).size =b-a:=by rw[ByteArray.size_extract];omega
 unfold g_;by_cases h:a+i<b
 .rw[if_pos h,dif_pos om,dif_pos (by omega)];rw[ByteArray.getElem_extract]
 .rw[if_neg h,dif_neg (by omega)]
def Fp{s:ByteArray}(k:Nat):∀{p q:Nat},(∀i,i<k->g_ s (p+i)=g_ t (q+i))->num s p k=num t q k:=by
 induction k with
 |zero=>intro p q _;rfl
 |succ k ih=>
  intro p q h;show g_ s p+256*num s (p+1) k=g_ t q+256*num t (q+1) k;rw[ih (p:=p+1) (q:=q+1) (λi hi=>by rw[(om:p+1+i=p+(i+1)),(om:q+1+i=q+(i+1))];exact h (i+1) om),show g_ s p=g_ t q from h 0 (by omega)]
def aQi(t:ByteArray)(ht:17<=t.size):num (t.extract 0 17) 0 8=num t 0 8:=Fp 8 λi hi=>by
 rw[Ep _ _ _ _ ht,if_pos om,Nat.zero_add]
def aQh(t:ByteArray)(ht:17<=t.size):g_ (t.extract 0 17) 8=g_ t 8:=by
 rw[Ep _ _ _ _ ht,if_pos (by omega)]
def aQg(t:ByteArray)(ht:17<=t.size):num ((t.extract 0 17).extract 9 17) 0 8=num t 9 8:=Fp 8 λi hi=>by
 have z1:(t.extract 0 17).size =17:=by rw[ByteArray.size_extract];omega
 rw[Ep _ _ _ _ om,if_pos om,Ep _ _ _ _ ht,if_pos om,Nat.zero_add,Nat.zero_add]
def aI6(t:ByteArray)(lb:Nat)(ht:t.size<17)(hc:aA w lb 0 (.string t)):
  QR 273 #[.pointer (some ⟨lb,0,none⟩)] w (.tuple #[Yx 0 0 0,.bool false]):=by
 have h1:(t.size:Int)<17:=om;have hcA:=dU hc;have hlb:=au hc;go_enter func273,ntmps273;go_wp2;go_returns;exact⟨rfl,kr⟩
def aF9(t:ByteArray)(lb:Nat)(ht:17<=t.size)(hs:t.size<=1048576)(hc:aA w lb 0 (.string t))(hz:dB w lb 0):
  CT 273 #[.pointer (some ⟨lb,0,none⟩)] w λe w'=>e=.returned (.tuple #[Yx (num t 0 8) (g_ t 8) (num t 9 8),.bool true])/\Gr (w.setCell ⟨lb,0,none⟩ (.string (t.extract 17 t.size))) w':=by
 have h1:¬(t.size:Int)<17:=om;have hcA:=dU hc;have hzA:=Qm hz;have hlb:=au hc;have h2:(17:Int)<=t.size:=om;have z1:(t.extract 0 17).size =17:=by rw[ByteArray.size_extract];omega
 have z2:((t.extract 0 17).extract 9 17).size =8:=by rw[ByteArray.size_extract];omega
 have D1:KW 274 #[.string (t.extract 0 17)] (Z (num t 0 8)):=λw=>(aHd (t.extract 0 17) om om w).mono λe w' hh=>⟨hh.1.trans (by rw[aQi t ht]),hh.2⟩;have D2:KW 274 #[.string ((t.extract 0 17).extract 9 17)] (Z (num t 9 8)):=λw=>(aHd ((t.extract 0 17).extract 9 17) om om w).mono λe w' hh=>⟨hh.1.trans (by rw[aQg t ht]),hh.2⟩;have q:∀w,(Instr.index 9 (.string (t.extract 0 17)) (J 8)).run Tryz.prog w=.ok (.int .u8 (g_ t 8)) w:=λw=>(jO (t.extract 0 17) 8 om w).trans (by rw[aQh t ht]);have q1:∀w,(Instr.slice 9 (.string t) none (some (J 17)) none).run Tryz.prog w=.ok (.string (t.extract 0 17)) w:=λw=>run_slice_string_h w 9 t Tryz.underlying9 .i64 17 om h2;have q2:∀w,(Instr.slice 9 (.string t) (some (J 17)) none none).run Tryz.prog w=.ok (.string (t.extract 17 t.size)) w:=λw=>run_slice_string_l w 9 t Tryz.underlying9 .i64 17 om h2;have q3:∀w,(Instr.slice 9 (.string (t.extract 0 17)) (some (J 9)) none none).run Tryz.prog w=.ok (.string ((t.extract 0 17).extract 9 17)) w:=λw=>by
  have:=run_slice_string_l w 9 (t.extract 0 17) Tryz.underlying9 .i64 9 om (by rw[z1];omega);rw[z1]at this;exact this
 generalize t.extract 17 t.size=t' at*
 generalize(t.extract 0 17).extract 9 17=t2 at*
 generalize t.extract 0 17=t1 at*
 go_enter func273,ntmps273;go_upto_region 5 with fail;have uF:(w.setCell ⟨lb,0,none⟩ (.string t')).heap.size =w.heap.size:=World.size_setCell ..;rw[<-uF];obtain⟨W,hW⟩:=dK (w.setCell ⟨lb,0,none⟩ (.string t'));have hGW:Gr (w.setCell ⟨lb,0,none⟩ (.string t')) W:=by rw[hW];exact Gr.refl _
 rw[hW];clear hW;clear hc hz hcA hzA uF hlb q1 q2;go_region_held3 (λw'=>True)(trivial)(first|(go_at_call 274;first|(with_reducible refine kw (D1.out _) ?_)|(with_reducible refine kw (D2.out _) ?_)))
 all_goals go_wp2<;>go_returns
 all_goals exact⟨rfl,kr⟩
def aBR(t:ByteArray)(w:World):
  CT 203 #[.string t] w λe w'=>e=.returned (.func (.func 273) #[] #[.pointer (some ⟨w.heap.size,0,none⟩)])/\w'=w.alloc (.cells #[.string t] 9):=by
 go_enter func203,ntmps203;go_wp2;go_returns;exact⟨rfl,rfl⟩
def sU:∀(z fl:Int) (w:World),(Instr.field 100 (aP z fl) 0).run Tryz.prog w=.ok (Z z) w:=λz fl w=>by kernel_rfl
def sK{o:O7}(H:o.S)(HI:o.In)(ha:Wo a)(lo hi cl ch:Int)(l0:-9223372036854775808<=lo)(l1:lo<=9223372036854775807)(h0:-9223372036854775808<=hi)(h1:hi<=9223372036854775807)(hl:o.mul (o.int lo) vC=cl)(hh:o.mul (o.int hi) vC=ch)(HU:bP 1 a c s x g)(r:Bool)
  (hr:r=(!decide (1<c)&&(decide (0<=yD a cl)&&decide (yD a ch<=0)))) (w:World):
  QB 125 #[Z a,J lo,J hi] w (.bool r):=by
 have HW1:KB 111 #[J lo] (Z (o.int lo)):=H.word.out lo l0 l1;have HW2:KB 111 #[J hi] (Z (o.int hi)):=H.word.out hi h0 h1;have HH:=H.half;have X5:KB 112 #[Z (o.int lo),Z vC] (Z cl):=by rw[<-hl];exact H.times.out _ _ (HI.int lo) (Wo.c _)
 have Gf:KB 112 #[Z (o.int hi),Z vC] (Z ch):=by rw[<-hh];exact H.times.out _ _ (HI.int hi) (Wo.c _)
 have HO1:KW 159 #[J 1,Z a,Z cl] (J (yD a cl)):=H.order.out a cl ha (by rw[<-hl];exact HI.mul (HI.int lo) (Wo.c _));have HO2:KW 159 #[J 1,Z a,Z ch] (J (yD a ch)):=H.order.out a ch ha (by rw[<-hh];exact HI.mul (HI.int hi) (Wo.c _));generalize o.int lo=u1 at*
 generalize o.int hi=u2 at*
 generalize yD a cl=q1 at*
 generalize yD a ch=q2 at*
 clear H HI hl hh l0 l1 h0 h1 ha;rcases(show(1<c/\r=false)\/(¬1<c/\¬0<=q1/\r=false)\/(¬1<c/\0<=q1/\r=decide (q2<=0)) by
  by_cases c1:1<c
  .exact .inl ⟨c1,by rw[hr];simp[c1]⟩
  .by_cases c2:0<=q1
   .exact .inr (.inr ⟨c1,c2,by rw[hr];simp[c1,c2]⟩)
   .exact .inr (.inl ⟨c1,c2,by rw[hr];simp[c2]⟩))with⟨c1,rfl⟩|⟨c1,c2,rfl⟩|⟨c1,c2,rfl⟩
 .clear hr;go_enter func125,ntmps125;go_wp2_with (go_at_call 126;refine ku (HU _) λw1 ak=>?_);go_returns;exact⟨rfl,kg⟩
 all_goals
  clear hr;go_enter func125,ntmps125;go_upto_region 4 with(go_at_call 126;refine ku (HU _) λw1 ak=>?_);go_wp2_with (first|(go_at_call 111;first|(with_reducible refine ku (HW1.out _) λw2 aB=>?_)|(with_reducible refine ku (HW2.out _) λw5 bJ=>?_))|(go_at_call 113;refine ku (HH _) λw3 aK=>?_)|(go_at_call 112;first|(with_reducible refine ku (X5.out _) λw4 aV=>?_)|(with_reducible refine ku (Gf.out _) λw6 fK=>?_))|(go_at_call 159;first|(with_reducible refine kw (HO1.out _) ?_)|(with_reducible refine kw (HO2.out _) ?_)))
  go_returns;exact⟨rfl,kg⟩
def aBq{o:O7}(H:o.S)(HI:o.In)(ha:Wo a)(n t cn:Int)(hc:Wo cn)(HT:KW 117 #[J n] (Z t))(HF:Hid (∀w,CT 60 #[J 1,J 0,J 3,Z t] w λe w'=>∃fl:Int,e=.returned (aP cn fl)/\Gb w w'))
   (HU:bP 1 a c s x g) (r:Int) (hr:s=1/\r=0\/s=0/\r=o.fix (o.mul a cn)) (w:World):
  QB 219 #[Z a,J n] w (Z r):=by
 have hf:=sU;have HM:KB 112 #[Z a,Z cn] (Z (o.mul a cn)):=H.times.out _ _ ha hc;have HX:Hid (∀w,CT 69 #[J 1,J 2,J 3,Z (o.mul a cn)] w λe w'=>∃fl:Int,e=.returned (aP (o.fix (o.mul a cn)) fl)/\Gb w w'):=H.fix.out _ (HI.mul ha hc);clear H HI ha hc;rcases hr with⟨rfl,rfl⟩|⟨rfl,rfl⟩
 .go_enter func219,ntmps219;go_wp2_with (go_at_call 126;refine ku (HU _) λw1 ak=>?_);go_returns;exact⟨rfl,kg⟩
 .generalize o.fix (o.mul a cn)=r at*
  generalize o.mul a cn=m at*
  go_enter func219,ntmps219;go_upto_region 4 with(go_at_call 126;refine ku (HU _) λw1 ak=>?_);go_wp2_with (first|(go_at_call 117;refine kw (HT _) ?_)|(go_at_call 60;refine(HF _).mono ?_;rintro e w3 ⟨f3,rfl,aK⟩)|(go_at_call 112;refine ku (HM _) λw4 aV=>?_)|(go_at_call 69;refine(HX _).mono ?_;rintro e w5 ⟨f5,rfl,bJ⟩))
  go_returns;exact⟨rfl,kg⟩
def aJB{o:O7}(H:o.S)(HI:o.In)(ha:Wo a)(hq:9223372036854775808<=a->a%9223372036854775808<=9218868437227405312)(w:World):
  QB 219 #[Z a,J 32] w (Z (o.fix (o.mul a c32))):=by
 obtain⟨c,s,x,g,hu,HU⟩:=H.unp ha;refine aBq H HI ha 32 4294967296 c32 (Wo.c _) (λw=>kN 32 _ om de w) H.aG6 HU _ ?_ w;obtain⟨h1,h2,h3,h4⟩:=hu;rcases h1 with h1|h1
 .exact .inr ⟨h1,rfl⟩
 .exact .inl ⟨h1,H.neg ha (h4 h1) (hq (h4 h1))⟩
def aJA{o:O7}(H:o.S)(HI:o.In)(h0:0<=a)(h1:a<9223372036854775808)(w:World):
  QB 219 #[Z a,J 63] w (Z (o.shr a)):=by
 have ha:Wo a:=⟨h0,om⟩;obtain⟨c,s,x,g,hu,HU⟩:=H.unp ha;refine aBq H HI ha 63 9223372036854775808 c63 (Wo.c _) (λw=>kN 63 _ om de w) H.aG5 HU _ ?_ w;obtain⟨k1,k2,k3,k4⟩:=hu;rcases k1 with k1|k1
 .exact .inr ⟨k1,rfl⟩
 .have:=k4 k1;omega
def aDS{o:O7}(H:o.S)(HI:o.In)(z:Int)(n:Nat)(hn:n<=18)(z0:-18<=z)(z1:z<=19){r:Int}(hr:Wo r)(hh:Wo h)(s0:0<=sc)(s1:sc<9223372036854775808)(hv:Wo v)(w:World):
  QB 130 #[J z,J n,Z r,Z h,Z sc,Z v] w (.bool (o.acc z n r h (o.shr sc) v)):=by
 have hf:=sU;have hd:=HI.sub (HI.int z) hr;have hdd:=HI.mul hd hd;have hm:=HI.mul hdd hh;have hq:Wo (4593671619917905920:Int):=Wo.c _;have hi:=HI.int ((n:Int)*n);have hmi:=HI.mul hi hq;have hx:=HI.sub hm hmi;have hy:=HI.fix (HI.mul hx (Wo.c c32));have HD:KR 218 #[Z (o.fix (o.mul (o.JR z n r h) c32))] (Z (mP (o.fix (o.mul (o.JR z n r h) c32)))):=aJM _ hy.1 hy.2;have HP:KR 217 #[Z (mP (o.fix (o.mul (o.JR z n r h) c32))),Z (o.shr sc)] (Z (o.leaves z n r h (o.shr sc))):=by
  have d:=Qz (o.fix (o.mul (o.JR z n r h) c32));have e:=HI.fix (HI.mul (show Wo sc from ⟨s0,om⟩) (Wo.c c63));exact aFU _ _ d.1 om e.1 e.2
 have HX:KB 219 #[Z (o.JR z n r h),J 32] (Z (o.fix (o.mul (o.JR z n r h) c32))):=aJB H HI hx (HI.aOw hm hmi);have HE:KB 219 #[Z sc,J 63] (Z (o.shr sc)):=aJA H HI s0 s1;have HW1:KB 111 #[J z] (Z (o.int z)):=H.word.out z om om;have nn:(n:Int)*n<=18*18:=Int.mul_le_mul om om om om;have nn0:0<=(n:Int)*n:=Int.mul_nonneg om om;obtain⟨N,hN⟩:=dK ((n:Int)*n);have HW2:KB 111 #[J N] (Z (o.int N)):=H.word.out N om om;have HH:=H.half;have X3:KB 127 #[Z (o.int z),Z r] (Z (o.sub (o.int z) r)):=H.minus.out _ _ (HI.int z) hr;have HT:=H.times;have HQ1:KB 112 #[Z vC,Z vC] (Z 4598175219545276416):=by rw[<-H.k6];exact HT _ _ (Wo.c _) (Wo.c _)
 have HQ2:KB 112 #[Z 4598175219545276416,Z vC] (Z 4593671619917905920):=by rw[<-H.k7];exact HT _ _ (Wo.c _) (Wo.c _)
 have HS2:KB 127 #[Z (o.mul (o.mul (o.sub (o.int z) r) (o.sub (o.int z) r)) h),Z (o.mul (o.int N) 4593671619917905920)] (Z (o.JR z n r h)):=by rw[<-hN];exact H.minus.out _ _ hm hmi
 have X5:KB 112 #[Z (o.sub (o.int z) r),Z (o.sub (o.int z) r)] (Z (o.mul (o.sub (o.int z) r) (o.sub (o.int z) r))):=HT _ _ hd hd;have Gf:KB 112 #[Z (o.mul (o.sub (o.int z) r) (o.sub (o.int z) r)),Z h] (Z (o.mul (o.mul (o.sub (o.int z) r) (o.sub (o.int z) r)) h)):=HT _ _ hdd hh;have HM3:KB 112 #[Z (o.int N),Z 4593671619917905920] (Z (o.mul (o.int N) 4593671619917905920)):=by rw[<-hN];exact HT _ _ hi hq
 have HR:Hid (o.acc z n r h (o.shr sc) v=decide (v/2<o.leaves z n r h (o.shr sc))):=rfl;have v0:=hv.1;have v1:=hv.2;generalize o.acc z n r h (o.shr sc) v=b at*
 generalize o.leaves z n r h (o.shr sc)=lv at*
 generalize o.shr sc=es at*
 generalize mP (o.fix (o.mul (o.JR z n r h) c32))=dy at*
 generalize o.fix (o.mul (o.JR z n r h) c32)=fx at*
 generalize o.JR z n r h=xx at*
 generalize o.mul (o.int N) 4593671619917905920=mi at*
 generalize o.mul (o.mul (o.sub (o.int z) r) (o.sub (o.int z) r)) h=mh at*
 generalize o.mul (o.sub (o.int z) r) (o.sub (o.int z) r)=dd at*
 generalize o.sub (o.int z) r=d at*
 generalize o.int N=iN at*
 generalize o.int z=iz at*
 clear HT H HI hr hh hd hdd hm hq hi hmi hx hy;go_enter func130,ntmps130;go_upto_region 2 with(first|(go_at_call 111;refine ku (HW1 _) λw1 ak=>?_)|(go_at_call 127;refine ku (X3 _) λw2 aB=>?_))
 go_upto_region 3 with(first|(go_at_call 113;refine ku (HH _) λw3 aK=>?_)|(go_at_call 112;first|(with_reducible refine ku (HQ1.out _) λw4 aV=>?_)|(with_reducible refine ku (HQ2.out _) λw5 bJ=>?_)))
 go_upto_region 4 with(first|(go_at_call 111;refine ku (HW2 _) λw6 fK=>?_)|(go_at_call 112;first|(with_reducible refine ku (X5.out _) λw7 ji=>?_)|(with_reducible refine ku (Gf.out _) λw8 WX=>?_)|(with_reducible refine ku (HM3.out _) λw9 bM=>?_))|(go_at_call 127;refine ku (HS2 _) λwa tY=>?_))
 go_wp2_with (first|(go_at_call 219;first|(with_reducible refine ku (HX.out _) λwb o_=>?_)|(with_reducible refine ku (HE.out _) λwc aGL=>?_))|(go_at_call 218;refine ku (HD _) λwd aTt=>?_)|(go_at_call 217;refine ku (HP _) λwe aTs=>?_))
 go_returns;obtain rfl:=HR.out;exact⟨rfl,kg⟩
