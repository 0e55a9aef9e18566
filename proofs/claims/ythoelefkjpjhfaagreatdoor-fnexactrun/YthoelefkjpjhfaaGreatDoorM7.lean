import Derived.Test.YthoelefkjpjhfaaGreatDoorK9
import Derived.Test.YthoelefkjpjhfaaGreatDoorK1
import Derived.Test.YthoelefkjpjhfaaGreatDoorL5ZT
set_option linter.all false
open Option renaming none → V, some → U
open Bool renaming false → E, true → I
open Go.Proofs.YthoelefkjpjhfaaGreatDoor renaming vI → J, vU → Y
open Go.Ending renaming returned → O
open Go.Value renaming bool → X
open Go.Proofs.Tryz
namespace Go.Proofs.YthoelefkjpjhfaaGreatDoor
open Go.RowKit
attribute [local go_sem] aB dL
variable {f p mx aN sg nan a aj Z s x0 x2 aG fl Z' qQ:Int}{K N r:Nat}{w:ak}{v q u0 u1 u2 u3:Value}{x3:Bool}
def Vk(f aj a:Int)(a0:0<=a)(a1:aI a)(w:ak)(hw:Fm w):
  CT 32 #[J f,J aj,Y a] w λe w'=>∃Z fl,pz qV f aj a a Z fl/\e=O (aU Z fl)/\Gr w w':=by
 refine Yp f aj a (pz qV f aj a a) (λw' hg=>?_);have Bo:=hw.gr hg;by_cases hf:f=0\/f=1
 .obtain⟨p,mx,one,aN,sg,nan,hF⟩:=fQ f hf;obtain⟨mn,fb,sp,hM,Ce,Ru⟩:=hF.m;by_cases hm:0<=aj/\aj<=4
  .obtain⟨k,hk⟩:=mP aj hm.1 hm.2;obtain⟨x,hx,HA⟩:=jP hF hM a a0 a1;obtain⟨v1,v2,v3,v4,v5,v6⟩:=bU hF hx;refine(zi p mn mx aj f k 88 a a _ _ _ _ _ _ _ _ _ _ _ _ (λbf dY=>eX hF hM aj k (λw=>iI aj k hk w) (Bo.gr dY)) HA HA (mV p (qV p aj x x)) (λw=>?_) (qK p mn mx one aN sg nan aj (qV p aj x x)) (λos oe oc oh ol ot of w hq=>Ht hM aj k hk _ os oe oc oh ol ot of hq w)).mono ?_
   .by_cases h3:3<=x.c
    .refine(kS p mn mx aj k _ _ _ _ _ _ _ _ _ _ _ _ 88 x.c om h3 w).mono ?_;rintro e w' ⟨rfl,hg⟩;rw[show qV p aj x x=⟨x.c,0,0,0⟩ from by unfold qV;rw[aQ h3]];exact⟨_,_,_,_,_,_,_,mV.nan p _ h3 (by have:=v1.c4;omega),rfl,hg⟩
    .exact Ey p mn mx aj k _ _ _ _ _ _ _ _ _ _ _ _ x.c om om _ (λw=>NH hF hM aj k hx om w) w
   .rintro e bf ⟨Z,fl,hp,rfl,dY⟩;rw[Ce]at hp;exact⟨_,_,.inl ⟨p,mx,one,aN,sg,nan,x,x,hF,hm,hx,hx,hp⟩,rfl,dY⟩
  .refine(lV p mn mx aj nan f aj a a (λbf dY=>iC hF hM aj (λw=>lG aj om w) (Bo.gr dY)) (λw=>dF hM w) 88).mono ?_;rintro e bf ⟨rfl,dY⟩;exact⟨_,_,.inr (.inl ⟨p,mx,one,aN,sg,nan,hF,om,rfl,rfl⟩),rfl,dY⟩
 .refine(lV _ _ _ _ _ f aj a a (λbf dY=>eG f aj hf (Bo.gr dY)) (λw=>dF m64 w) 88).mono ?_;rintro e bf ⟨rfl,dY⟩;exact⟨_,_,.inr (.inr ⟨hf,rfl,rfl⟩),rfl,dY⟩
def WY{one:Int}(h:bI f p mx one aN sg nan)(aj a:Int)(hm:0<=aj/\aj<=4)(a0:0<=a)(a1:aI a){x:d_}(hx:dO p mx one aN sg nan a x)(w:ak):
  CT 67 #[J f,J aj,Y a] w λe w'=>∃Z fl,qK p (1-mx) mx one aN sg nan aj (qV p aj x x) Z fl/\e=O (aU Z fl)/\Gb w w':=by
 obtain⟨v1,v2,v3,v4,v5,v6⟩:=bU h hx;have xc0:=v1.c0;have xc4:=v1.c4;have lD:=v1.lD;have hb:=h.bounds;by_cases uF:a<2*sg
 .have HF:qI f aj a I:=λw=>kZ h aj a a hm.1 hm.2 a0 uF a0 uF w;have fM:=ji h a a0 uF hx;have HQ:∀(t:Bool),t=decide (3<=x.c)->bY x.c x.s x.e (((x.M:Nat):Int)) t:=λt ht w=>jf _ _ _ _ t ht w;have uX:∀t:Bool,qR f t nan (if t then 1 else 0):=λt w=>nZ h t _ rfl w;unfold qV;by_cases c1:3<=x.c
  .rw[aQ c1];refine(aDw f aj a _ _ _ _ HF fM (HQ I (by simp[c1])) (decide (x.c=4)) (bq _ _) nan _ (uX _) w).mono ?_;rintro e w' ⟨rfl,hg⟩;exact⟨_,_,.inl (qC _ _ rfl om om),rfl,hg⟩
  .rw[aH c1];have qP:=HQ E jA;by_cases cz:x.c=0
   .rw[aQ cz];refine(aAB f aj a _ _ _ _ HF fM qP cz (sw x.s sg 0) 0 (λw=>kY h _ lD w) w).mono ?_;rintro e w' ⟨rfl,hg⟩;exact⟨_,_,.inl (.inl ⟨rfl,rfl,rfl⟩),rfl,hg⟩
   .rw[aH cz];by_cases cs:x.s=1
    .rw[aQ cs];refine(aDv f aj a _ _ _ _ HF fM qP (by simp[cz]) cs nan 1 (λw=>dA h w) w).mono ?_;rintro e w' ⟨rfl,hg⟩;exact⟨_,_,.inl (jI rfl),rfl,hg⟩
    .rw[aH cs];have s0:x.s=0:=by rcases lD with s|s;exact s;exact bG s cs
     by_cases ci:x.c=2
     .rw[aQ ci];refine(aDx f aj a _ _ _ _ HF fM qP ci s0 (sw 0 sg aN) 0 (λw=>eH h _ (.inl rfl) w) w).mono ?_;rintro e w' ⟨rfl,hg⟩;exact⟨_,_,.inl (.inr (.inr (.inl ⟨rfl,rfl,rfl⟩))),rfl,hg⟩
     .rw[aH ci];have cx:x.c=1:=om;obtain⟨Pn,hP,ZL,Vw,hA,hA2⟩:=sS h hx cx;obtain⟨od,hod⟩:∃od:Nat,(x.e+(p-1))%2=(od:Int):=⟨((x.e+(p-1))%2).toNat,om⟩;obtain⟨C,st,hC,hst,r1,r2,r3,r4,r5,r6,r7⟩:=N9 hP ZL Vw hA hA2 x.e _ _ od rfl hod rfl;obtain⟨Pl,hPl⟩:=x_n (oZ p x.e);have aUg:Pl=oZ p x.e:=hPl;rw[<-hPl]at r4 r5 r7⊢
      have aTG:Pl=Pn+8/\(x.e-(p+8))%2=0\/Pl=Pn+9/\(x.e-(p+8))%2=1:=by
       rw[hPl];unfold oZ;by_cases c:(x.e-(p+8))%2=0
       .rw[aQ c];exact .inl ⟨om,c⟩
       .rw[aH c];exact .inr ⟨om,om⟩
      clear hPl aUg r6;have HRt:Hid (∀v w,aK 8 w v (x.M*2^Pl)->CT 151 #[v] w (vO 8 (iH (x.M*2^Pl)) w)):=λv w ⟨n,n1,n2⟩=>by
       refine(aA9 n2 om).mono ?_;rintro e w' ⟨r,k,R,rfl,hb,hk,hr,hg⟩;obtain⟨b,c,rfl,_⟩:=Big.shape hb;rw[<-hr.one (Xu _)];exact⟨b,k,c,⟨k,om,hb⟩,rfl,hg⟩
      obtain⟨z0,mD⟩:=x_n (jl (iH (x.M*2^Pl)*iH (x.M*2^Pl)) (x.M*2^Pl));have HCm:Hid (∀v v' w,aK 16 w v (iH (x.M*2^Pl)*iH (x.M*2^Pl))->aK 8 w v' (x.M*2^Pl)->QB 133 #[v,v'] w (J z0)):=λv v' w ⟨n,n1,n2⟩ ⟨n',n1',n2'⟩=>by
       rw[mD];exact kM n2 om n2' om
      have hzr:(z0 != 0)=decide (iH (x.M*2^Pl)*iH (x.M*2^Pl)≠x.M*2^Pl):=by
       rw[mD];unfold jl;by_cases c:iH (x.M*2^Pl)*iH (x.M*2^Pl)=x.M*2^Pl
       .rw[aH om,aH (by omega)];simp[c]
       .by_cases c2:iH (x.M*2^Pl)*iH (x.M*2^Pl)<x.M*2^Pl
        .rw[aQ c2];simp[c]
        .rw[aH c2,aQ (by omega)];simp[c]
      have HR:∀q:Int,q=(x.e-Pl)/2->Hid (∀v w,aK 8 w v (iH (x.M*2^Pl))->CT 138 #[J f,J aj,.agg #[J 0,v,J q,X (decide (iH (x.M*2^Pl)*iH (x.M*2^Pl)≠x.M*2^Pl))]] w λe w'=>∃z fl,qK p (1-mx) mx one aN sg nan aj ⟨1,0,(x.e-Pl)/2-1,sqM Pl x.M⟩ z fl/\e=O (aU z fl)/\Gb w w'):=λq hq v w hB=>by
       rw[hq];exact Hl h aj hm.1 hm.2 ⟨1,0,(x.e-Pl)/2-1,sqM Pl x.M⟩ rfl (.inl rfl) _ r4 ((x.e-Pl)/2) om om _ r5 (λmn mx one aN aj z fl=>r7 _ _ _ _ _ _ _ _) 8 om v w hB
      obtain⟨q,hq⟩:=x_n ((x.e-Pl)/2:Int);have DI:x.e-(Pl:Int)=2*q:=om;have hqd:(x.e-(Pl:Int)).tdiv 2=q:=by rw[DI];exact Int.mul_tdiv_cancel_left q de
      have hqw:wrap64 q=q:=by unfold wrap64;omega
      rcases aTG with⟨e1,e2⟩|⟨e1,e2⟩
      .have ht:(x.e-(Pl:Int)).tmod 2=0:=by rw[DI];exact Int.mul_tmod_right 2 q
       exact aAC f aj a _ _ _ _ HF fM qP cx s0 x.M rfl om om om p om om (λw=>qG h w) Pl _ q 0 om om rfl ht de hqd hqw _ z0 hzr _ HRt HCm _ (HR q hq) w
      .obtain⟨r0,Qv⟩:=x_n ((x.e-(p+8)).tmod 2);have lM:(r0 != 0)=I:=by
        have:r0≠0:=by
         intro c;rw[Qv]at c;have:=Int.emod_emod_of_dvd (x.e-(p+8)) (Int.dvd_refl 2);have:=Int.emod_eq_zero_of_dvd (Int.dvd_of_tmod_eq_zero c);omega
        simp[this]
       exact aDu f aj a _ _ _ _ HF fM qP cx s0 x.M rfl om om om p om om (λw=>qG h w) Pl (p+8) (x.e-(p+8)) _ q r0 rfl rfl Qv.symm lM om om rfl hqd hqw _ z0 hzr _ HRt HCm _ (HR q hq) w
 .refine(He f aj a (λw=>fK f aj a a a0 a1 a0 a1 (tJ h a1 a1 om) w) nan 1 (λw=>dA h w) w).mono ?_;rintro e w' ⟨rfl,hg⟩;have:=jM h hx om;subst this;exact⟨_,_,.inl (jI rfl),rfl,hg⟩
def Uo(f aj a:Int)(a0:0<=a)(a1:aI a)(w:ak):
  CT 67 #[J f,J aj,Y a] w λe w'=>∃Z fl,pz qV f aj a a Z fl/\e=O (aU Z fl)/\Gb w w':=by
 by_cases hf:f=0\/f=1
 .obtain⟨p,mx,one,aN,sg,nan,hF⟩:=fQ f hf;by_cases hm:0<=aj/\aj<=4
  .obtain⟨x,hx⟩:=fH hF a a0 a1;refine(WY hF aj a hm a0 a1 hx w).mono ?_;rintro e w' ⟨Z,fl,hp,rfl,hg⟩;exact⟨_,_,.inl ⟨p,mx,one,aN,sg,nan,x,x,hF,hm,hx,hx,hp⟩,rfl,hg⟩
  .refine(He f aj a (λw=>fK f aj a a a0 a1 a0 a1 (.inl om) w) nan 1 (λw=>dA hF w) w).mono ?_;rintro e w' ⟨rfl,hg⟩;exact⟨_,_,.inr (.inl ⟨p,mx,one,aN,sg,nan,hF,om,rfl,rfl⟩),rfl,hg⟩
 .refine(He f aj a (λw=>fK f aj a a a0 a1 a0 a1 (.inr (.inl hf)) w) _ 1 (λw=>nK f hf w) w).mono ?_;rintro e w' ⟨rfl,hg⟩;exact⟨_,_,.inr (.inr ⟨hf,rfl,rfl⟩),rfl,hg⟩
def BN(f aj a:Int)(a0:0<=a)(a1:aI a):
  ∃Z fl:Int,pz qV f aj a a Z fl/\(∀w,QB 67 #[J f,J aj,Y a] w (aU Z fl))/\
   (∀w,Fm w->QR 32 #[J f,J aj,Y a] w (aU Z fl)):=
 P8 qV 67 32 _ aJH f aj a a a0 a1 a0 a1 (Uo f aj a a0 a1) (Vk f aj a a0 a1)
set_option maxRecDepth 1000000
def aMe{P:Prop}(h:P:=by
 rintro e w' ⟨rfl,hg⟩;exact⟨_,_,.inl (qC _ _ (by rw[decide_eq_decide];omega) om om),rfl,hg⟩):P:=h
def Yq(f a b:Int)(a0:0<=a)(a1:aI a)(b0:0<=b)(b1:aI b)(w:ak)(hw:Fm w):
  CT 34 #[J f,Y a,Y b] w λe w'=>∃Z fl,pz Df f 0 a b Z fl/\e=O (aU Z fl)/\Gr w w':=by
 refine aBr f a b (pz Df f 0 a b) (λw' hg=>?_);have Bo:=hw.gr hg;have hm:(0:Int)<=0/\(0:Int)<=4:=⟨om,om⟩;by_cases hf:f=0\/f=1
 .obtain⟨p,mx,one,aN,sg,nan,hF⟩:=fQ f hf;obtain⟨mn,fb,sp,hM,Ce,Ru⟩:=hF.m;obtain⟨k,hk⟩:=mP 0 hm.1 hm.2;obtain⟨x,hx,HA⟩:=jP hF hM a a0 a1;obtain⟨y,hy,HB⟩:=jP hF hM b b0 b1;obtain⟨v1,v2,v3,v4,v5,v6⟩:=bU hF hx;obtain⟨u1,u2,u3,u4,u5,u6⟩:=bU hF hy;refine(zi p mn mx 0 f k 90 a b _ _ _ _ _ _ _ _ _ _ _ _ (λbf dY=>eX hF hM 0 k (λw=>iI 0 k hk w) (Bo.gr dY)) HA HB (mV p (Df p 0 x y)) (λw=>?_) (qK p mn mx one aN sg nan 0 (Df p 0 x y)) (λos oe oc oh ol ot of w hq=>Ht hM 0 k hk _ os oe oc oh ol ot of hq w)).mono ?_
  .by_cases h3:3<=max x.c y.c
   .refine(kS p mn mx 0 k _ _ _ _ _ _ _ _ _ _ _ _ 90 _ rfl h3 w).mono ?_;rintro e w' ⟨rfl,hg⟩;rw[E5 p 0 x y h3];exact⟨_,_,_,_,_,_,_,mV.nan p _ h3 (by have:=v1.c4;have:=u1.c4;omega),rfl,hg⟩
   .exact F9 p mn mx 0 k _ _ _ _ _ _ _ _ _ _ _ _ _ rfl om _ (λw=>Q7 hF mn 0 k hx hy om w) w
  .rintro e bf ⟨Z,fl,hp,rfl,dY⟩;rw[Ce]at hp;exact⟨_,_,.inl ⟨p,mx,one,aN,sg,nan,x,y,hF,hm,hx,hy,hp⟩,rfl,dY⟩
 .refine(lV _ _ _ _ _ f 0 a b (λbf dY=>eG f 0 hf (Bo.gr dY)) (λw=>dF m64 w) 90).mono ?_;rintro e bf ⟨rfl,dY⟩;exact⟨_,_,.inr (.inr ⟨hf,rfl,rfl⟩),rfl,dY⟩
def Sm{one:Int}(h:bI f p mx one aN sg nan)(ha:a<2*sg){x:d_}(hx:dO p mx one aN sg nan a x)(hc:x.c<=1):cZ p (1-mx) mx one aN sg nan aj x a 0:=by
 rcases hx with⟨_,v,hs,hv⟩|⟨c,_⟩
 .have Dk:∀z:Int,z=v->a=sw x.s sg z:=λz hz=>by
   rcases hs with⟨h1,h2,h3⟩|⟨h1,h2,h3⟩
   .rw[h1,hz,h2];simp[sw]
   .rw[h1,hz,h2];simp[sw]
  rcases hv with⟨e0,c0,_,_⟩|⟨_,_,c0,_⟩|⟨_,c0,_⟩|⟨_,c0,_⟩|⟨v0,v1,c0,hn⟩
  .exact .inl ⟨c0,Dk 0 e0.symm,rfl⟩
  .exfalso;omega
  .exfalso;omega
  .exfalso;omega
  .obtain⟨_,_,_,_,hr⟩:=aC3 h aj x.s v x.e (x.M:Int) v0 v1 hn;rw[Int.toNat_natCast]at hr;exact .inr (.inl ⟨c0,v,hr,Dk v rfl⟩)
 .exfalso;omega
def aAm{one:Int}(h:bI f p mx one aN sg nan)(a b:Int)(a0:0<=a)(a1:aI a)(b0:0<=b)(b1:aI b){x y:d_}(hx:dO p mx one aN sg nan a x)(hy:dO p mx one aN sg nan b y)(w:ak):
  CT 68 #[J f,Y a,Y b] w λe w'=>∃Z fl,qK p (1-mx) mx one aN sg nan 0 (Df p 0 x y) Z fl/\e=O (aU Z fl)/\Gb w w':=by
 obtain⟨v1,v2,v3,v4,v5,v6⟩:=bU h hx;obtain⟨u1,u2,u3,u4,u5,u6⟩:=bU h hy;have xc0:=v1.c0;have xc4:=v1.c4;have yc0:=u1.c0;have yc4:=u1.c4;have hb:=h.bounds;have sa0:0<=x.s:=by have:=v1.lD;omega
 have sa1:x.s<=1:=by have:=v1.lD;omega
 by_cases uF:a<2*sg/\b<2*sg
 .obtain⟨fa,PI⟩:=uF;have HF:dU f 0 a b I:=λw=>kZ h 0 a b om om a0 fa b0 PI w;have fM:=ji h a a0 fa hx;have gK:=ji h b b0 PI hy;have HQ:∀(z:d_) (t:Bool),t=decide (3<=z.c)->bY z.c z.s z.e (((z.M:Nat):Int)) t:=λz t ht w=>jf _ _ _ _ t ht w;have uX:∀t:Bool,qR f t nan (if t then 1 else 0):=λt w=>nZ h t _ rfl w;by_cases c1:3<=x.c
  .rw[E5 p 0 x y (by omega)];by_cases c2:x.c=4
   .refine(aDC f a b _ _ _ _ _ _ _ _ HF fM gK (HQ x I (by simp[c1])) (by simp[c2]) nan _ (uX I) w).mono ?_;rintro e w' ⟨rfl,hg⟩;exact⟨_,_,.inl (qC _ I jA om om),rfl,hg⟩
   .refine(aDB f a b _ _ _ _ _ _ _ _ HF fM gK (HQ x I (by simp[c1])) (by simp[c2]) (decide (y.c=4)) (bq _ _) nan _ (uX _) w).mono ?_;exact aMe
  .by_cases c2:3<=y.c
   .rw[E5 p 0 x y (by omega)];refine(aDA f a b _ _ _ _ _ _ _ _ HF fM gK (HQ x E jA) (HQ y I (by simp[c2])) jA (decide (y.c=4)) (bq _ _) nan _ (uX _) w).mono ?_;exact aMe
   .have qP:=HQ x E jA;have vw:=HQ y E jA;unfold Df;rw[aH (om:¬3<=max x.c y.c)];by_cases cx2:x.c=2
    .rw[aQ (.inl cx2)];refine(aDE f a b _ _ _ _ _ _ _ _ HF fM gK qP vw cx2 nan 1 (λw=>dA h w) w).mono ?_;rintro e w' ⟨rfl,hg⟩;exact⟨_,_,.inl (jI rfl),rfl,hg⟩
    .by_cases cy0:y.c=0
     .rw[aQ (.inr cy0)];refine(aDD f a b _ _ _ _ _ _ _ _ HF fM gK qP vw (by simp[cx2]) cy0 nan 1 (λw=>dA h w) w).mono ?_;rintro e w' ⟨rfl,hg⟩;exact⟨_,_,.inl (jI rfl),rfl,hg⟩
     .rw[aH (om:¬(x.c=2\/y.c=0))];by_cases cx0:x.c=0
      .rw[aQ (.inl cx0)];refine(aDz f a b _ _ _ _ _ _ _ _ HF fM gK qP vw cx0 (by simp[cy0]) w).mono ?_;rintro e w' ⟨rfl,hg⟩;exact⟨_,_,.inl (Sm h fa hx om),rfl,hg⟩
      .have cx:x.c=1:=om;by_cases cy2:y.c=2
       .rw[aQ (.inr cy2)];refine(aGN f a b _ _ _ _ _ _ _ _ HF fM gK qP vw cx cy2 w).mono ?_;rintro e w' ⟨rfl,hg⟩;exact⟨_,_,.inl (Sm h fa hx om),rfl,hg⟩
       .have cy:y.c=1:=om;rw[aH (om:¬(x.c=0\/y.c=2))];have Cm:0<y.M:=(u1.fin cy).1;have LZ:0<qw x y:=Nat.mul_pos Cm (iQ de);have HZ:∀(w:ak),rV (pR x y) (qw x y)=0->CT 137 #[J f,J x.s] w λe w'=>∃z fl,qK p (1-mx) mx one aN sg nan 0 (if rV (pR x y) (qw x y)=0 then(⟨0,x.s,0,0⟩:d_)else⟨1,if qW (pR x y) (qw x y)then 1-x.s else x.s,min x.e y.e,rV (pR x y) (qw x y)⟩) z fl/\e=O (aU z fl)/\Gr w w':=λw hz=>by
         rw[aQ hz];refine(kY h _ v1.lD w).mono ?_;rintro e w' ⟨rfl,hg⟩;exact⟨_,_,.inl (.inl ⟨rfl,rfl,rfl⟩),rfl,hg⟩
        have HR:∀(e:Int),e=min x.e y.e->∀(v:Value) (w:ak),0<rV (pR x y) (qw x y)->aK 1000 w v (rV (pR x y) (qw x y))->CT 138 #[J f,J 0,.agg #[J (if qW (pR x y) (qw x y)then 1-x.s else x.s),v,J e,X E]] w λe w'=>∃z fl,qK p (1-mx) mx one aN sg nan 0 (if rV (pR x y) (qw x y)=0 then(⟨0,x.s,0,0⟩:d_)else⟨1,if qW (pR x y) (qw x y)then 1-x.s else x.s,min x.e y.e,rV (pR x y) (qw x y)⟩) z fl/\e=O (aU z fl)/\Gb w w':=λe he v w jZ hB=>by
         rw[aH (om:¬rV (pR x y) (qw x y)=0),he];refine(oL h 0 om om ⟨1,if qW (pR x y) (qw x y)then 1-x.s else x.s,min x.e y.e,rV (pR x y) (qw x y)⟩ rfl (by dsimp only;split<;>omega) jZ (by dsimp only;omega) (by dsimp only;omega) 1000 om v w hB).mono ?_;rintro e w' ⟨z,fl,hp,he,hg⟩;exact⟨z,fl,.inl hp,he,hg⟩
        exact aGM f a b _ _ _ _ _ _ _ _ HF fM gK qP vw cx cy x.M y.M rfl rfl om om om om om om sa0 sa1 (min x.e y.e) (x.e-min x.e y.e) (y.e-min x.e y.e) (x.e-min x.e y.e).toNat (y.e-min x.e y.e).toNat (by
         by_cases fJ:y.e<x.e
         .exact .inl ⟨fJ,om,by rw[dI];omega,om⟩
         .exact .inr ⟨fJ,om,by rw[dI];omega,om⟩) (show _/\_ from ⟨om,om⟩) ⟨om,om⟩ (pR x y) (qw x y) rfl rfl LZ _ (HR _ rfl) HZ w
 .refine(Xp f a b (λw=>fK f 0 a b a0 a1 b0 b1 (tJ h a1 b1 om) w) nan 1 (λw=>dA h w) w).mono ?_;rintro e w' ⟨rfl,hg⟩;refine⟨_,_,?_,rfl,hg⟩;have:max x.c y.c=4:=by
   rcases(om:2*sg<=a\/2*sg<=b)with c|c
   .have:=jM h hx c;subst this;dsimp only at*;omega
   .have:=jM h hy c;subst this;dsimp only at*;omega
  rw[E5 p 0 x y (by omega)];exact .inl (jI this)
def W9(f a b:Int)(a0:0<=a)(a1:aI a)(b0:0<=b)(b1:aI b)(w:ak):
  CT 68 #[J f,Y a,Y b] w λe w'=>∃Z fl,pz Df f 0 a b Z fl/\e=O (aU Z fl)/\Gb w w':=by
 by_cases hf:f=0\/f=1
 .obtain⟨p,mx,one,aN,sg,nan,hF⟩:=fQ f hf;obtain⟨x,hx⟩:=fH hF a a0 a1;obtain⟨y,hy⟩:=fH hF b b0 b1;refine(aAm hF a b a0 a1 b0 b1 hx hy w).mono ?_;rintro e w' ⟨Z,fl,hp,rfl,hg⟩;exact⟨_,_,.inl ⟨p,mx,one,aN,sg,nan,x,y,hF,⟨om,om⟩,hx,hy,hp⟩,rfl,hg⟩
 .refine(Xp f a b (λw=>fK f 0 a b a0 a1 b0 b1 (.inr (.inl hf)) w) _ 1 (λw=>nK f hf w) w).mono ?_;rintro e w' ⟨rfl,hg⟩;exact⟨_,_,.inr (.inr ⟨hf,rfl,rfl⟩),rfl,hg⟩
def aG7(f a b:Int)(a0:0<=a)(a1:aI a)(b0:0<=b)(b1:aI b):
  ∃Z fl:Int,pz Df f 0 a b Z fl/\(∀w,Qj f a b w Z fl)/\
   (∀w,Fm w->QR 34 #[J f,Y a,Y b] w (aU Z fl)):=
 P8 Df 68 34 _ aOa f 0 a b a0 a1 b0 b1 (W9 f a b a0 a1 b0 b1) (Yq f a b a0 a1 b0 b1)
set_option maxRecDepth 1000000
set_option maxHeartbeats 40000000
def aKG(aG a B d:Int)(M L:Nat)(t:Bool)(B0:0<B)(hd:decide (d<=0)=t)(HK:rG aG B E)(HB:Hid (∀w,CT 132 #[Y a] w (vO 2 M w)))(HM:Hid (∀w,CT 134 #[J aG,J 0] w (vO 20 L w)))(HC:Hid (∀v v' w,aK 2 w v M->aK 20 w v' L->QB 133 #[v,v'] w (J d)))(w:ak):
  CT 58 #[J aG,Y a] w λe w'=>∃b k c,aK 2 w' (aF b k c) M/\e=O (.tuple #[.agg #[J 0,aF b k c,J 0,X E],X t])/\Gb w w':=by
 go_enter func58,ntmps58;go_upto_region 3 with(first|(go_at_call 131;refine kw (HK _) ?_)|(go_at_call 132;refine(HB _).mono ?_;rintro e n1 ⟨b1,k1,q1,iF,rfl,oP⟩;have yS:=oP.Qz w;have jB:=aA yS.1))
 obtain⟨w2,kK⟩:=dP (n1.alloc (.cells #[J 0,aF b1 k1 q1,J 0,X E] 95));have aC:Gb n1 w2:=by rw[<-kK];exact(Gb.refl _).alloc _
 have mY:aK 2 w2 (aF b1 k1 q1) M:=aK.gb iF aC;have x0:w2.cell? ⟨n1.heap.size,0,V⟩=U (J 0):=by rw[<-kK];simp[go_sem]
 have x1:w2.cell? ⟨n1.heap.size,1,V⟩=U (aF b1 k1 q1):=by rw[<-kK];simp[go_sem]
 have x2:w2.cell? ⟨n1.heap.size,2,V⟩=U (J 0):=by rw[<-kK];simp[go_sem]
 have x3:w2.cell? ⟨n1.heap.size,3,V⟩=U (X E):=by rw[<-kK];simp[go_sem]
 have mG:n1.heap.size<w2.heap.size:=by rw[<-kK];simp
 rw[kK];clear kK;have:=aC.Qz w;have ZK:Gb w w2:=Gb.g;go_wp2;go_region_held3 (λw'=>pG w' n1.heap.size 0 1 2 3 (J 0) (aF b1 k1 q1) (J 0) (X E))(exact qj)(first|(go_at_call 134;refine(HM _).mono ?_;rintro e n3 ⟨b3,k3,q3,nO,rfl,Bq⟩;have:=Bq.Qz w)|(go_at_call 133;with_reducible refine ku (HC.out _ _ _ (aK.gb mY Gb.g) (aK.gb nO Gb.g)) λn4 iW=>?_;have JU:=iW.Qz w))
 all_goals go_wp2
 all_goals
  refine gY (v:=.tuple #[.agg #[J 0,aF b1 k1 q1,J 0,X E],X t]) (by simp[results,results58,go_sem,JU,hd]) rfl ⟨b1,k1,q1,?_,rfl,?_⟩
  .exact(aK.gb mY Gb.g).st4 JU.1 JU.2.2.1 JU.2.2.2.2.1 JU.2.2.2.2.2.2.1
  .exact Gb.g
def aK.aSF(h:aK K w v N)(hq:∀d,q≠ .int .u32 d)(h0:aB w r 0 (J x0))(h1:aB w r 1 q)(h2:aB w r 2 (J x2))(h3:aB w r 3 (X x3)):
  aK K ((((w.setCell ⟨r,0,V⟩ u0).setCell ⟨r,1,V⟩ u1).setCell ⟨r,2,V⟩ u2).setCell ⟨r,3,V⟩ u3) v N:=
 (((h.st u0 h0 (λd e=>by cases e)).st u1 (bQ om h1) hq).st u2 (bQ om (bQ om h2)) (λd e=>by cases e)).st u3 (bQ om (bQ om (bQ om h3))) (λd e=>by cases e)
def aKI(aG a an B d:Int)(N M L:Nat)(t:Bool)(B0:0<B)(hd:decide (d<=0)=t)(ha:decide (9223372036854775808<=a)=I)(han:IntKind.u64.wrap (0-a)=an)(aWj:IntKind.u64.wrap (-a)=an)(HK:rG aG B I)(HB:Hid (∀w,CT 132 #[Y a] w (vO 2 N w)))(HB2:Hid (∀w,CT 132 #[Y an] w (vO 2 M w)))(HT:KW 117 #[J 63] (Y 9223372036854775808))(HM:Hid (∀w,CT 134 #[J aG,J 1] w (vO 20 L w)))(HC:Hid (∀v v' w,aK 2 w v M->aK 20 w v' L->QB 133 #[v,v'] w (J d)))(w:ak):
  CT 58 #[J aG,Y a] w λe w'=>∃b k c,aK 2 w' (aF b k c) M/\e=O (.tuple #[.agg #[J 1,aF b k c,J 0,X E],X t])/\Gb w w':=by
 go_enter func58,ntmps58;go_upto_region 3 with(first|(go_at_call 131;refine kw (HK _) ?_)|(go_at_call 132;refine(HB _).mono ?_;rintro e n1 ⟨b1,k1,q1,iF,rfl,oP⟩;have yS:=oP.Qz w;have jB:=aA yS.1))
 obtain⟨w2,kK⟩:=dP (n1.alloc (.cells #[J 0,aF b1 k1 q1,J 0,X E] 95));have aC:Gb n1 w2:=by rw[<-kK];exact(Gb.refl _).alloc _
 have mY:aK 2 w2 (aF b1 k1 q1) N:=aK.gb iF aC;have x0:w2.cell? ⟨n1.heap.size,0,V⟩=U (J 0):=by rw[<-kK];simp[go_sem]
 have x1:w2.cell? ⟨n1.heap.size,1,V⟩=U (aF b1 k1 q1):=by rw[<-kK];simp[go_sem]
 have x2:w2.cell? ⟨n1.heap.size,2,V⟩=U (J 0):=by rw[<-kK];simp[go_sem]
 have x3:w2.cell? ⟨n1.heap.size,3,V⟩=U (X E):=by rw[<-kK];simp[go_sem]
 have xz0:dL w2 n1.heap.size 0:=by rw[<-kK];simp[go_sem]
 have xz1:dL w2 n1.heap.size 1:=by rw[<-kK];simp[go_sem]
 have xz2:dL w2 n1.heap.size 2:=by rw[<-kK];simp[go_sem]
 have xz3:dL w2 n1.heap.size 3:=by rw[<-kK];simp[go_sem]
 have mG:n1.heap.size<w2.heap.size:=by rw[<-kK];simp
 rw[kK];clear kK;have:=aC.Qz w;have ZK:Gb w w2:=Gb.g;go_upto_region 5 with(first|(go_at_call 117;refine kw (HT _) ?_)|(go_at_call 132;refine(HB2 _).mono ?_;rintro e n5 ⟨b5,k5,q5,hb5,rfl,kQ⟩;have:=kQ.Qz w;have px0:=kQ.Qz n1;have hz5:=aA px0.1))
 obtain⟨w6,xX⟩:=dP ((((n5.setCell ⟨n1.heap.size,0,V⟩ (J 1)).setCell ⟨n1.heap.size,1,V⟩ (aF b5 k5 q5)).setCell ⟨n1.heap.size,2,V⟩ (J 0)).setCell ⟨n1.heap.size,3,V⟩ (X E));have aRr:Gb w n5:=Gb.g;have fJ:w.heap.size<=n1.heap.size:=om;have gG:Gb w w6:=by
  rw[<-xX];exact(((aRr.setCell (a:=⟨n1.heap.size,0,V⟩) fJ _).setCell (a:=⟨n1.heap.size,1,V⟩) fJ _).setCell (a:=⟨n1.heap.size,2,V⟩) fJ _).setCell (a:=⟨n1.heap.size,3,V⟩) fJ _
 have y0:w6.cell? ⟨n1.heap.size,0,V⟩=U (J 1):=by rw[<-xX];exact kh
 have y1:w6.cell? ⟨n1.heap.size,1,V⟩=U (aF b5 k5 q5):=by rw[<-xX];exact kh
 have y2:w6.cell? ⟨n1.heap.size,2,V⟩=U (J 0):=by rw[<-xX];exact kh
 have y3:w6.cell? ⟨n1.heap.size,3,V⟩=U (X E):=by rw[<-xX];exact kh
 have hb6:aK 2 w6 (aF b5 k5 q5) M:=by rw[<-xX];exact hb5.aSF (λd e=>by cases e) px0.1 px0.2.2.1 px0.2.2.2.2.1 px0.2.2.2.2.2.2.1
 have tr0:w6.cell? ⟨w.heap.size,0,V⟩=U (J 0):=by rw[<-xX];exact kh
 have tr1:w6.cell? ⟨w.heap.size,1,V⟩=U (.slice V 0 0):=by rw[<-xX];exact kh
 have tr2:w6.cell? ⟨w.heap.size,2,V⟩=U (J 0):=by rw[<-xX];exact kh
 have tr3:w6.cell? ⟨w.heap.size,3,V⟩=U (X E):=by rw[<-xX];exact kh
 have aVe:dL w6 w.heap.size 0:=by rw[<-xX];exact kh
 have aVd:dL w6 w.heap.size 1:=by rw[<-xX];exact kh
 have aVc:dL w6 w.heap.size 2:=by rw[<-xX];exact kh
 have aVb:dL w6 w.heap.size 3:=by rw[<-xX];exact kh
 rw[xX];clear xX;go_region_held3 (λw'=>pG w' n1.heap.size 0 1 2 3 (J 1) (aF b5 k5 q5) (J 0) (X E))(exact qj)(first|(go_at_call 134;refine(HM _).mono ?_;rintro e n3 ⟨b3,k3,q3,nO,rfl,Bq⟩;have:=Bq.Qz w)|(go_at_call 133;with_reducible refine ku (HC.out _ _ _ (aK.gb hb6 Gb.g) (aK.gb nO Gb.g)) λn4 iW=>?_;have JU:=iW.Qz w))
 all_goals go_wp2
 all_goals
  refine gY (v:=.tuple #[.agg #[J 1,aF b5 k5 q5,J 0,X E],X t]) (by simp[results,results58,go_sem,JU,hd]) rfl ⟨b5,k5,q5,?_,rfl,?_⟩
  .exact(aK.gb hb6 Gb.g).st4 JU.1 JU.2.2.1 JU.2.2.2.2.1 JU.2.2.2.2.2.2.1
  .exact Gb.g
section
attribute [local go_sem] undef
def aKF(aG a:Int)(M:Nat)(HK:rG aG 0 E)(HB:Hid (∀w,CT 132 #[Y a] w (vO 2 M w)))(w:ak):
  CT 58 #[J aG,Y a] w λe w'=>∃b k c,aK 2 w' (aF b k c) M/\e=O (.tuple #[.agg #[J 0,aF b k c,J 0,X E],X E])/\Gb w w':=by
 go_enter func58,ntmps58;go_upto_region 3 with(first|(go_at_call 131;refine kw (HK _) ?_)|(go_at_call 132;refine(HB _).mono ?_;rintro e n1 ⟨b1,k1,q1,iF,rfl,oP⟩;have yS:=oP.Qz w;have jB:=aA yS.1))
 obtain⟨w2,kK⟩:=dP (n1.alloc (.cells #[J 0,aF b1 k1 q1,J 0,X E] 95));have aC:Gb n1 w2:=by rw[<-kK];exact(Gb.refl _).alloc _
 have mY:aK 2 w2 (aF b1 k1 q1) M:=aK.gb iF aC;have x0:w2.cell? ⟨n1.heap.size,0,V⟩=U (J 0):=by rw[<-kK];simp[go_sem]
 have x1:w2.cell? ⟨n1.heap.size,1,V⟩=U (aF b1 k1 q1):=by rw[<-kK];simp[go_sem]
 have x2:w2.cell? ⟨n1.heap.size,2,V⟩=U (J 0):=by rw[<-kK];simp[go_sem]
 have x3:w2.cell? ⟨n1.heap.size,3,V⟩=U (X E):=by rw[<-kK];simp[go_sem]
 have mG:n1.heap.size<w2.heap.size:=by rw[<-kK];simp
 rw[kK];clear kK;have Di:=aC.Qz w;have ZK:Gb w w2:=Gb.g;go_wp2;first|go_region|fail
 all_goals go_wp2
 all_goals
  refine gY (v:=.tuple #[.agg #[J 0,aF b1 k1 q1,J 0,X E],X E]) (by simp[results,results58,go_sem,Di]) rfl ⟨b1,k1,q1,?_,rfl,?_⟩
  .exact(aK.gb mY Gb.g).st4 Di.1 Di.2.2.1 Di.2.2.2.2.1 Di.2.2.2.2.2.2.1
  .exact Gb.g
end
def Il(aG a:Int):d_:=if jQ aG a=0 then⟨0,0,0,0⟩else⟨1,g_ aG a,0,jQ aG a⟩
def iE(f aj aG a Z fl:Int):Prop:=
 (∃p mx one aN sg nan,bI f p mx one aN sg nan/\(0<=aj/\aj<=4)/\jk aG a=I/\cZ p (1-mx) mx one aN sg nan aj (Il aG a) Z fl)\/
 (∃p mx one aN sg nan,bI f p mx one aN sg nan/\(¬(0<=aj/\aj<=4)\/jk aG a=E)/\Z=nan/\fl=1)\/
 (¬(f=0\/f=1)/\Z=9221120237041090560/\fl=1)
def iE.one(h:iE f aj aG a Z fl)(h':iE f aj aG a Z' qQ):Z=Z'/\fl=qQ:=by
 rcases h with⟨p,mx,one,aN,sg,nan,hF,hm,hk,hp⟩|⟨p,mx,one,aN,sg,nan,hF,hm,rfl,rfl⟩|⟨hF,rfl,rfl⟩<;>
 rcases h' with⟨p',zq,rX,r_,GK,rY,oC,KD,EI,SY⟩|⟨p',zq,rX,r_,GK,rY,oC,KD,rfl,rfl⟩|⟨oC,rfl,rfl⟩
 .obtain⟨rfl,rfl,rfl,rfl,rfl,rfl⟩:=hF.one oC;exact cZ.one hp SY
 .exfalso;rcases KD with h|h
  .exact h hm
  .rw[hk]at h;cases h
 .exact bG hF.yes.symm (by simp[oC])
 .exfalso;rcases hm with h|h
  .exact h KD
  .rw[EI]at h;cases h
 .obtain⟨rfl,rfl,rfl,rfl,rfl,rfl⟩:=hF.one oC;exact⟨rfl,rfl⟩
 .exact bG hF.yes.symm (by simp[oC])
 .exact bG oC.yes.symm (by simp[hF])
 .exact bG oC.yes.symm (by simp[hF])
 .exact⟨rfl,rfl⟩
def aHX(aG a:Int):0<=(Il aG a).c /\(Il aG a).c <=4:=by unfold Il;split<;>(dsimp only;omega)
def Vz(f aj aG a:Int):∃Z fl,iE f aj aG a Z fl:=by
 by_cases hf:f=0\/f=1
 .obtain⟨p,mx,one,aN,sg,nan,hF⟩:=fQ f hf;by_cases hm:0<=aj/\aj<=4
  .cases hk:jk aG a
   .exact⟨_,_,.inr (.inl ⟨p,mx,one,aN,sg,nan,hF,.inr hk,rfl,rfl⟩)⟩
   .obtain⟨Z,fl,hp⟩:=BQ p (1-mx) mx one aN sg nan aj _ (aHX aG a).1 (aHX aG a).2;exact⟨Z,fl,.inl ⟨p,mx,one,aN,sg,nan,hF,hm,hk,hp⟩⟩
  .exact⟨_,_,.inr (.inl ⟨p,mx,one,aN,sg,nan,hF,.inl hm,rfl,rfl⟩)⟩
 .exact⟨_,_,.inr (.inr ⟨hf,rfl,rfl⟩)⟩
def aLo(M L:Nat):decide (jl M L<=0)=decide (M<=L):=by
 unfold jl;by_cases h:M<=L
 .rw[h_ h,h_];split<;>(try split)<;>omega
 .rw[gV h,gV];rw[aH om,aQ (by omega)];omega
def SH(aG a:Int)(a0:0<=a)(a1:aI a)(w:ak):
  CT 58 #[J aG,Y a] w λe w'=>∃b k c,aK 2 w' (aF b k c) (jQ aG a)/\e=O (.tuple #[.agg #[J (g_ aG a),aF b k c,J 0,X E],X (jk aG a)])/\Gb w w':=by
 have HB:∀(v:Int) (N:Nat),v=(N:Int)->aI N->Hid (∀w,CT 132 #[Y v] w (vO 2 N w)):=by
  intro v N e h w;subst e;exact fE ((iO N h w).mono (λe w' ⟨v,k,c1,c2,c3,c4⟩=>⟨v,k,c1,c2,om,c4⟩))
 have HM:∀s,s=0\/s=1->Hid (∀w,CT 134 #[J aG,J s] w (vO 20 (gu aG s) w)):=λs hs w=>OX aG s hs w;have HC:∀M L:Nat,Hid (∀v v' w,aK 2 w v M->aK 20 w v' L->QB 133 #[v,v'] w (J (jl M L))):=λM L v v' w ⟨n,h1,h2⟩ ⟨n',h1',h2'⟩=>kM h2 om h2' om;have HT:KW 117 #[J 63] (Y 9223372036854775808):=λw=>lH 63 _ om de w;have ht:a=((a.toNat:Nat):Int):=om;have kd:∀B S,uM aG=B->DZ aG=S->rG aG B S:=by
  intro B S e1 e2 w;rw[<-e1,<-e2];exact rZ aG w
 by_cases hk:0<=aG/\aG<=3
 .have hB:0<uM aG:=by rcases(om:aG=0\/aG=1\/aG=2\/aG=3)with rfl|rfl|rfl|rfl<;>decide
  have ft:decide (jl (jQ aG a) (gu aG (g_ aG a))<=0)=jk aG a:=by
   rw[aLo];unfold jk;rw[decide_eq_decide];exact⟨λh=>⟨hk,h⟩,λh=>h.2⟩
  by_cases hs:aG=0\/aG=1
  .have hS:DZ aG=I:=by unfold DZ;exact h_ hs
   by_cases hh:9223372036854775808<=a
   .have e1:g_ aG a=1:=by unfold g_;rw[aQ ⟨hs,hh⟩]
    have e2:jQ aG a=(18446744073709551616-a).toNat :=by unfold jQ;rw[aQ ⟨hs,hh⟩]
    have Qu:IntKind.u64.wrap (0-a)=18446744073709551616-a:=by rw[iT];omega
    have kK:IntKind.u64.wrap (-a)=18446744073709551616-a:=by rw[iT];omega
    rw[e1]at ft⊢
    exact aKI aG a (18446744073709551616-a) (uM aG) _ a.toNat _ _ _ hB ft (h_ hh) Qu kK (kd _ _ rfl hS) (HB a _ ht om) (HB _ _ (by rw[e2];omega) (Fv aG a a0 a1)) HT (HM 1 (.inr rfl)) (HC _ _) w
   .have e1:g_ aG a=0:=by unfold g_;rw[aH (λh=>hh h.2)]
    have e2:jQ aG a=a.toNat:=by unfold jQ;rw[aH (λh=>hh h.2)]
    rw[e1]at ft⊢
    exact aKH aG a (uM aG) _ _ _ _ hB ft (gV hh) (kd _ _ rfl hS) (HB a _ (by rw[e2];exact ht) (Fv aG a a0 a1)) HT (HM 0 (.inl rfl)) (HC _ _) w
  .have hS:DZ aG=E:=by unfold DZ;exact gV hs
   have e1:g_ aG a=0:=by unfold g_;rw[aH (λh=>hs h.1)]
   have e2:jQ aG a=a.toNat:=by unfold jQ;rw[aH (λh=>hs h.1)]
   rw[e1]at ft⊢
   exact aKG aG a (uM aG) _ _ _ _ hB ft (kd _ _ rfl hS) (HB a _ (by rw[e2];exact ht) (Fv aG a a0 a1)) (HM 0 (.inl rfl)) (HC _ _) w
 .have hs:¬(aG=0\/aG=1):=om;have e1:g_ aG a=0:=by unfold g_;rw[aH (λh=>hs h.1)]
  have e2:jQ aG a=a.toNat:=by unfold jQ;rw[aH (λh=>hs h.1)]
  have e3:jk aG a=E:=by unfold jk;exact gV (λh=>hk h.1)
  rw[e1,e3];exact aKF aG a _ (kd _ _ (by unfold uM;rw[aH om,aH (by omega)]) (by unfold DZ;exact gV hs)) (HB a _ (by rw[e2];exact ht) (Fv aG a a0 a1)) w
def lX(f aj aG a:Int)(a0:0<=a)(a1:aI a)(w:ak):
  CT 60 #[J f,J aj,J aG,Y a] w λe w'=>∃Z fl,iE f aj aG a Z fl/\e=O (aU Z fl)/\Gb w w':=by
 have HX:∀t,jk aG a=t->Hid (∀w,CT 58 #[J aG,Y a] w λe w'=>∃b k c,aK 2 w' (aF b k c) (jQ aG a)/\e=O (.tuple #[.agg #[J (g_ aG a),aF b k c,J 0,X E],X t])/\Gb w w'):=λt ht w=>ht▸SH aG a a0 a1 w;have fin:∀Z fl,iE f aj aG a Z fl->(QB 60 #[J f,J aj,J aG,Y a] w (aU Z fl))->CT 60 #[J f,J aj,J aG,Y a] w λe w'=>∃Z fl,iE f aj aG a Z fl/\e=O (aU Z fl)/\Gb w w':=λZ fl hp h=>h.mono (λe w' ⟨h1,h2⟩=>⟨Z,fl,hp,h1,h2⟩);by_cases hf:f=0\/f=1
 .obtain⟨p,mx,one,aN,sg,nan,hF⟩:=fQ f hf;cases hk:jk aG a
  .exact fin nan 1 (.inr (.inl ⟨p,mx,one,aN,sg,nan,hF,.inr hk,rfl,rfl⟩)) (NV f aj aG a _ nan 1 _ (HX E hk) (λw=>dA hF w) w)
  .have MV:KW 50 #[J f] (X I):=λw=>jo f I (by simp[hf]) w;by_cases hm:0<=aj/\aj<=4
   .have TM:nV aj I:=λw=>n_ aj I (by simp[hm]) w;rcases jL (jQ aG a)with h0|h0
    .refine fin (sw 0 sg 0) 0 (.inl ⟨p,mx,one,aN,sg,nan,hF,hm,hk,?_⟩) (aAE f aj aG a _ _ _ _ h0 (HX I hk) MV TM (λw=>kY hF 0 (.inl rfl) w) w);unfold Il;rw[aQ h0];exact .inl ⟨rfl,rfl,rfl⟩
    .refine(aDN f aj aG a _ _ h0 (HX I hk) MV TM (cZ p (1-mx) mx one aN sg nan aj ⟨1,g_ aG a,0,jQ aG a⟩) (λv w hB=>oL hF aj hm.1 hm.2 ⟨1,g_ aG a,0,jQ aG a⟩ rfl (Xg aG a) h0 (by dsimp only;omega) (by dsimp only;omega) 2 om v w hB) w).mono ?_;rintro e w' ⟨Z,fl,hp,rfl,hg⟩;refine⟨Z,fl,.inl ⟨p,mx,one,aN,sg,nan,hF,hm,hk,?_⟩,rfl,hg⟩;unfold Il;rw[aH (by omega)];exact hp
   .exact fin nan 1 (.inr (.inl ⟨p,mx,one,aN,sg,nan,hF,.inl hm,rfl,rfl⟩)) (aAF f aj aG a _ nan 1 _ (HX I hk) MV (λw=>n_ aj E jA w) (λw=>dA hF w) w)
 .have hL:qJ f 9221120237041090560 1:=λw=>nK f hf w;cases hk:jk aG a
  .exact fin _ 1 (.inr (.inr ⟨hf,rfl,rfl⟩)) (NV f aj aG a _ _ 1 _ (HX E hk) hL w)
  .exact fin _ 1 (.inr (.inr ⟨hf,rfl,rfl⟩)) (aAG f aj aG a _ _ 1 _ (HX I hk) (λw=>jo f E jA w) hL w)
def aMf{P:Prop}(h:P:=by
 have hh:¬9223372036854775808<=a:=om;unfold g_ jQ;rw[aH (λk=>hh k.2),aH (λk=>hh k.2)];exact⟨rfl,om⟩):P:=h
def Gm(x y:Int):(x==y)=decide (x=y):=by by_cases h:x=y<;>simp[h]
def aRU(a:Int)(a0:0<=a)(a1:aI a):∃s m:Int,(jk 0 a=I->s=g_ 0 a/\m=((jQ 0 a:Nat):Int))/\∀w,QR 353 #[.agg #[.int .i32 (-2147483648),.int .i32 2147483647],Y a] w (.tuple #[J s,Y m,X (jk 0 a)]):=by
 obtain⟨x,hx⟩:=dP (IntKind.i32.wrap a);have O8:=hx;rw[IntKind.wrap_i32]at O8;have hft:jk 0 a=decide (IntKind.u64.wrap x=a):=by
  unfold jk;rw[iT,decide_eq_decide];by_cases h:9223372036854775808<=a
  .have e1:g_ 0 a=1:=by unfold g_;rw[aQ ⟨.inl rfl,h⟩]
   have e2:jQ 0 a=(18446744073709551616-a).toNat :=by unfold jQ;rw[aQ ⟨.inl rfl,h⟩]
   rw[e1,e2,show gu 0 1=2147483648 by decide];omega
  .have e1:g_ 0 a=0:=by unfold g_;rw[aH (λk=>h k.2)]
   have e2:jQ 0 a=a.toNat:=by unfold jQ;rw[aH (λk=>h k.2)]
   rw[e1,e2,show gu 0 0=2147483647 by decide];omega
 have hd:=hft;rw[hd];by_cases c:x<0
 .refine⟨1,IntKind.u64.wrap (-a),λh=>?_,λw=>YX a x _ _ _ hx c rfl (Gm _ _) rfl w⟩;have:=of_decide_eq_true h;rw[iT]at this;have hh:9223372036854775808<=a:=om;unfold g_ jQ;rw[aQ ⟨.inl rfl,hh⟩,aQ ⟨.inl rfl,hh⟩,iT];exact⟨rfl,om⟩
 .refine⟨0,a,λh=>?_,λw=>YW a x _ _ hx om rfl (Gm _ _) w⟩;have:=of_decide_eq_true h;rw[iT]at this;exact aMf
def aRT(a:Int)(a0:0<=a)(a1:aI a):∃s m:Int,(jk 1 a=I->s=g_ 1 a/\m=((jQ 1 a:Nat):Int))/\∀w,QR 356 #[kV (-9223372036854775808) 9223372036854775807,Y a] w (.tuple #[J s,Y m,X (jk 1 a)]):=by
 obtain⟨x,hx⟩:=dP (IntKind.i64.wrap a);have O8:=hx;rw[dI]at O8;have hft:jk 1 a=decide (IntKind.u64.wrap x=a):=by
  unfold jk;rw[iT,decide_eq_decide];by_cases h:9223372036854775808<=a
  .have e1:g_ 1 a=1:=by unfold g_;rw[aQ ⟨.inr rfl,h⟩]
   have e2:jQ 1 a=(18446744073709551616-a).toNat :=by unfold jQ;rw[aQ ⟨.inr rfl,h⟩]
   rw[e1,e2,show gu 1 1=9223372036854775808 by decide];omega
  .have e1:g_ 1 a=0:=by unfold g_;rw[aH (λk=>h k.2)]
   have e2:jQ 1 a=a.toNat:=by unfold jQ;rw[aH (λk=>h k.2)]
   rw[e1,e2,show gu 1 0=9223372036854775807 by decide];omega
 have hd:=hft;rw[hd];by_cases c:x<0
 .refine⟨1,IntKind.u64.wrap (-a),λh=>?_,λw=>YV a x _ _ _ hx c rfl (Gm _ _) rfl w⟩;have hh:9223372036854775808<=a:=om;unfold g_ jQ;rw[aQ ⟨.inr rfl,hh⟩,aQ ⟨.inr rfl,hh⟩,iT];exact⟨rfl,om⟩
 .refine⟨0,a,λh=>?_,λw=>YU a x _ _ hx om rfl (Gm _ _) w⟩;exact aMf
def aRS(a:Int)(a0:0<=a)(a1:aI a):∃s m:Int,(jk 2 a=I->s=g_ 2 a/\m=((jQ 2 a:Nat):Int))/\∀w,QR 358 #[.agg #[.int .u32 0,.int .u32 4294967295],Y a] w (.tuple #[J s,Y m,X (jk 2 a)]):=by
 obtain⟨x,hx⟩:=dP (IntKind.u32.wrap a);have O8:=hx;rw[IntKind.wrap_u32]at O8;have hsg:g_ 2 a=0:=by unfold g_;rw[aH (by omega)]
 have hmg:jQ 2 a=a.toNat:=by unfold jQ;rw[aH (by omega)]
 have hft:jk 2 a=decide (IntKind.u64.wrap x=a):=by
  unfold jk;rw[hsg,hmg];rw[iT,decide_eq_decide,show gu 2 0=4294967295 by decide];omega
 rw[hft,hsg,hmg];exact⟨0,a,λ_=>⟨rfl,om⟩,λw=>YT a x _ _ hx om rfl (Gm _ _) w⟩
def aRR(a:Int)(a0:0<=a)(a1:aI a):∃s m:Int,(jk 3 a=I->s=g_ 3 a/\m=((jQ 3 a:Nat):Int))/\∀w,QR 360 #[aS 0 18446744073709551615,Y a] w (.tuple #[J s,Y m,X (jk 3 a)]):=by
 have hsg:g_ 3 a=0:=by unfold g_;rw[aH (by omega)]
 have hmg:jQ 3 a=a.toNat:=by unfold jQ;rw[aH (by omega)]
 have hft:jk 3 a=I:=by
  unfold jk;rw[hsg,hmg];rw[show gu 3 0=18446744073709551615 by decide];exact h_ om
 rw[hft,hsg,hmg];exact⟨0,a,λ_=>⟨rfl,om⟩,λw=>YS a a0 (by rw[iT];omega) w⟩
def uy(f aj aG a:Int)(a0:0<=a)(a1:aI a)(w:ak)(hw:Fm w):
  CT 92 #[J f,J aj,J aG,Y a] w λe w'=>∃Z fl,iE f aj aG a Z fl/\e=O (aU Z fl)/\Gr w w':=by
 have fin:∀Z,iE f aj aG a Z 1->(KO f aj aG a w Z 1)->CT 92 #[J f,J aj,J aG,Y a] w λe w'=>∃Z fl,iE f aj aG a Z fl/\e=O (aU Z fl)/\Gr w w':=λZ hp h=>h.mono (λe w' ⟨h1,h2⟩=>⟨Z,1,hp,h1,h2⟩);have kn:∃(kv:Value) (kb:Bool),∀w,QR 186 #[J aG] w (.tuple #[kv,X kb]):=by
  by_cases hk:0<=aG/\aG<=3
  .rcases(om:aG=0\/aG=1\/aG=2\/aG=3)with rfl|rfl|rfl|rfl
   .exact⟨_,_,vY⟩
   .exact⟨_,_,vX⟩
   .exact⟨_,_,vW⟩
   .exact⟨_,_,vV⟩
  .exact⟨_,_,λw=>B_ aG hk w⟩
 obtain⟨kv,kb,HKn⟩:=kn;by_cases hf:f=0\/f=1
 .obtain⟨p,mx,one,aN,sg,nan,hF⟩:=fQ f hf;obtain⟨mn,fb,sp,hM,Ce,Ru⟩:=hF.m;have HN:IL p mn mx nan 1:=λw=>dF hM w;by_cases hm:0<=aj/\aj<=4
  .obtain⟨k,hk⟩:=mP aj hm.1 hm.2;have HS:Hid (∀w',Gr w w'->uO f aj w' p mn mx k I):=λbf dY=>eX hF hM aj k (λw=>iI aj k hk w) (hw.gr dY);have bad:jk aG a=E->iE f aj aG a nan 1:=λh=>.inr (.inl ⟨p,mx,one,aN,sg,nan,hF,.inr h,rfl,rfl⟩);have HR:∀s m,s=g_ aG a->m=((jQ aG a:Nat):Int)->Hid (∀w,CT 187 #[eu p mn mx aj k,J s,J 0,aS 0 m,X E] w λe w'=>∃z fl,cZ p (1-mx) mx one aN sg nan aj (Il aG a) z fl/\e=O (aU z fl)/\Gr w w'):=by
    intro s m hs KD w;subst hs KD;have fJ:=Fv aG a a0 a1;rcases jL (jQ aG a)with h0|h0
    .have hs0:g_ aG a=0:=by
      unfold jQ at h0;unfold g_;by_cases c:(aG=0\/aG=1)/\9223372036854775808<=a
      .rw[aQ c]at h0;exfalso;omega
      .rw[aH c]
     rw[h0,hs0];refine(UC hM aj k 0 0 E om om (sw 0 sg 0) (λw=>oK hM 0 _ (.inl ⟨rfl,by simp[sw]⟩) w) w).mono ?_;rintro e w' ⟨rfl,hg⟩;refine⟨_,_,?_,rfl,hg⟩;unfold Il;rw[aQ h0];exact .inl ⟨rfl,rfl,rfl⟩
    .have:=BO hM aj aj k hk (g_ aG a) (Xg aG a) 0 om om (jQ aG a) h0 om E (λh=>by cases h) w;unfold iK at this;rw[(om:jQ aG a/18446744073709551616=0),(om:jQ aG a%18446744073709551616=jQ aG a)]at this;refine this.mono ?_;rintro e w' ⟨z,fl,hr,rfl,hg⟩;rw[Ce]at hr;refine⟨_,_,?_,rfl,hg⟩;unfold Il;rw[aH (by omega)];exact .inr (.inl ⟨rfl,z,hr,by rw[aCj]⟩)
   have ok:jk aG a=I->(∃s m,(s=g_ aG a/\m=((jQ aG a:Nat):Int))/\CT 92 #[J f,J aj,J aG,Y a] w λe w'=>∃z fl,cZ p (1-mx) mx one aN sg nan aj (Il aG a) z fl/\e=O (aU z fl)/\Gr w w')->CT 92 #[J f,J aj,J aG,Y a] w λe w'=>∃Z fl,iE f aj aG a Z fl/\e=O (aU Z fl)/\Gr w w':=λhq ⟨s,m,_,h⟩=>h.mono (λe w' ⟨z,fl,h0,h1,h2⟩=>⟨z,fl,.inl ⟨p,mx,one,aN,sg,nan,hF,hm,hq,h0⟩,h1,h2⟩);by_cases Rl:0<=aG/\aG<=3
   .rcases(om:aG=0\/aG=1\/aG=2\/aG=3)with rfl|rfl|rfl|rfl
    .obtain⟨s,m,he,HW⟩:=aRU a a0 a1;cases hq:jk 0 a<;>rw[hq]at HW he
     .exact fin nan (bad hq) (aE6 p mn mx aj nan f aj 0 a s m k HS vY HW HN)
     .exact ok hq ⟨s,m,he rfl,aIs p mn mx aj f aj 0 a s m k HS vY HW _ (HR s m (he rfl).1 (he rfl).2)⟩
    .obtain⟨s,m,he,HW⟩:=aRT a a0 a1;cases hq:jk 1 a<;>rw[hq]at HW he
     .exact fin nan (bad hq) (aE5 p mn mx aj nan f aj 1 a s m k HS vX HW HN)
     .exact ok hq ⟨s,m,he rfl,aIr p mn mx aj f aj 1 a s m k HS vX HW _ (HR s m (he rfl).1 (he rfl).2)⟩
    .obtain⟨s,m,he,HW⟩:=aRS a a0 a1;cases hq:jk 2 a<;>rw[hq]at HW he
     .exact fin nan (bad hq) (aE4 p mn mx aj nan f aj 2 a s m k HS vW HW HN)
     .exact ok hq ⟨s,m,he rfl,aIq p mn mx aj f aj 2 a s m k HS vW HW _ (HR s m (he rfl).1 (he rfl).2)⟩
    .obtain⟨s,m,he,HW⟩:=aRR a a0 a1;cases hq:jk 3 a<;>rw[hq]at HW he
     .exact fin nan (bad hq) (aE3 p mn mx aj nan f aj 3 a s m k HS vV HW HN)
     .exact ok hq ⟨s,m,he rfl,aIp p mn mx aj f aj 3 a s m k HS vV HW _ (HR s m (he rfl).1 (he rfl).2)⟩
   .exact fin nan (bad (by unfold jk;exact gV (λh=>Rl h.1))) (aIt p mn mx aj nan f aj aG a k HS (λw=>B_ aG Rl w) HN)
  .exact fin nan (.inr (.inl ⟨p,mx,one,aN,sg,nan,hF,.inl hm,rfl,rfl⟩)) (YR p mn mx aj nan f aj aG a kv kb (λbf dY=>iC hF hM aj (λw=>lG aj om w) (hw.gr dY)) HKn HN)
 .exact fin _ (.inr (.inr ⟨hf,rfl,rfl⟩)) (YR _ _ _ _ _ f aj aG a kv kb (λbf dY=>eG f aj hf (hw.gr dY)) HKn (λw=>dF m64 w))
def VA(f aj aG a:Int)(a0:0<=a)(a1:aI a):
  ∃Z fl:Int,iE f aj aG a Z fl/\(∀w,QB 60 #[J f,J aj,J aG,Y a] w (aU Z fl))/\
   (∀w,Fm w->KO f aj aG a w Z fl):=
 Gj (λ_ _ _ _ h h'=>iE.one h h') (Vz f aj aG a) (lX f aj aG a a0 a1) (uy f aj aG a a0 a1)
def aNg{one v:Int}(h:bI f p mx one aN sg nan)(hs:s=0\/s=1)(v0:0<=v)(v1:v<=aN):0<=sw s sg v/\sw s sg v<2*sg/\sw s sg v<18446744073709551616:=by
 have hb:=h.bounds;unfold sw;split<;>omega
def aKo{one:Int}(h:bI f p mx one aN sg nan)(hs:s=0\/s=1){y:d_}(hy:dO p mx one aN sg nan (sw s sg 0) y):y.s=s/\y.e=0/\y.M=0/\y.c=0:=by
 have hb:=h.bounds;obtain⟨y1,y2⟩:=dO.bare h hs om om hy;rcases y2 with⟨_,v',YA,hv'⟩|⟨c,_⟩
 .dsimp only at YA hv';have:v'=0:=om;subst this;rcases hv' with⟨q,c,e,m⟩|⟨_,_,c,_⟩|⟨_,c,_⟩|⟨q,c,e,m⟩|⟨q0,q1,c,_⟩
  .exact⟨y1,e,om,c⟩
  all_goals (exfalso;omega)
 .exfalso;omega
def aG1{one:Int}(a0:0<=a)(a1:aI a)(hF:bI f p mx one aN sg nan){x:d_}(hx:dO p mx one aN sg nan a x)(xc:x.c<=2)(hp:cZ p (1-mx) mx one aN sg nan aj (vG aj x) Z 0):
  (0<=Z/\Z<2*sg/\aI Z)/\∃y,dO p mx one aN sg nan Z y/\y.c<=2/\y.s=x.s/\(x.c<=1->y.c<=1/\∀way,cu way y=cu aj x)/\KY y=0/\∀way,cZ p (1-mx) mx one aN sg nan way (vG way y) Z 0:=by
 have hb:=hF.bounds;obtain⟨v1,v2,v3,v4,v5,v6⟩:=bU hF hx;have hs:=v1.lD;have x0:=v1.c0;by_cases hn:x.c=1/\x.e<0
 .obtain⟨c,e⟩:=hn;obtain⟨hl,mD,jB⟩:=rO hF hx aj c e;rcases jL (cu aj x)with h0|h0
  .obtain⟨rfl,_⟩:=cZ.one hp (mD h0);have Dk:=aNg hF hs (Int.le_refl 0) (om:(0:Int)<=aN);obtain⟨y,hy⟩:=fH hF _ Dk.1 Dk.2.2;obtain⟨q1,q2,q3,q4⟩:=aKo hF hs hy;have hny:¬(y.c=1/\y.e<0):=om;refine⟨Dk,y,hy,om,q1,λ_=>⟨om,λway=>?_⟩,AO (a:=a) hF hny,λway=>?_⟩
   .rw[uY om,q3,h0,Nat.zero_mul]
   .rw[nD hny];exact qA hF Dk.1 hy om way
  .obtain⟨z,hr,hpz⟩:=jB h0;obtain⟨rfl,_⟩:=cZ.one hp hpz;obtain⟨z0,z1,ZI⟩:=aBF hF hs h0 om (hr aj);have Dk:=aNg hF hs (om:0<=z) (om:z<=aN);obtain⟨y,hy⟩:=fH hF _ Dk.1 Dk.2.2;obtain⟨q1,q2,q3⟩:=ZI y hy;have hye:=(bU hF hy).2.2.2.1;have hw:=λway=>aFp (x:=y) om q3 way;refine⟨Dk,y,hy,om,q2,λ_=>⟨om,λway=>(hw way).1⟩,?_,λway=>?_⟩
   .unfold KY;rw[(hw 0).2,aH (by simp)]
   .by_cases hny:y.c=1/\y.e<0
    .unfold vG;rw[aQ hny,(hw way).1,aH om,q2];exact .inr (.inl ⟨rfl,z,hr way,rfl⟩)
    .rw[nD hny];exact qA hF Dk.1 hy om way
 .rw[nD hn]at hp;obtain⟨rfl,_⟩:=cZ.one hp (qA hF a0 hx xc aj);obtain⟨ha,v,_,_,hzz⟩:=zD hF a0 hx xc;refine⟨⟨a0,ha,a1⟩,x,hx,xc,rfl,λhc=>⟨hc,λway=>?_⟩,AO (a:=Z) hF hn,λway=>?_⟩
  .have he:0<=x.e:=by
    rcases(om:x.c=1\/x.c≠1)with k|k
    .omega
    .have:=hzz k;omega
   rw[uY he,uY he]
  .rw[nD hn];exact qA hF a0 hx xc way
