import Derived.Test.YthoelefkjpjhfaaGreatDoorK9
import Derived.Test.YthoelefkjpjhfaaGreatDoorK1
import Derived.Test.YthoelefkjpjhfaaGreatDoorL5ZT
set_option linter.all false
open Option renaming none → V, some → U
open Bool renaming false → E, true → I
open Go.Proofs.YthoelefkjpjhfaaGreatDoor renaming vI → J, vU → Y
open Go.Ending renaming returned → O
open Go.Value renaming bool → X
open Go.Proofs.Tryz
namespace Go.Proofs.YthoelefkjpjhfaaGreatDoor
open Go.RowKit
attribute [local go_sem] aA dB
variable{f p mx aI sg nan a aj Z s x0 x2 aF fl Z' oP:Int}{K N r:Nat}{w:World}{v q u0 u1 u2 u3:Value}{x3:Bool}
def S_(f aj a:Int)(a0:0<=a)(a1:aG a)(w:World)(hw:Fm w):
  CT 32 #[J f,J aj,Y a] w λe w'=>∃Z fl,nJ oW f aj a a Z fl/\e=O (aP Z fl)/\Gr w w':=by
 refine WI f aj a (nJ oW f aj a a) (λw' hg=>?_);have y8:=hw.gr hg;by_cases hf:f=0\/f=1
 .obtain⟨p,mx,one,aI,sg,nan,hF⟩:=eX f hf;obtain⟨mn,fb,sp,hM,zU,PD⟩:=hF.m;by_cases hm:0<=aj/\aj<=4
  .obtain⟨k,hk⟩:=kW aj hm.1 hm.2;obtain⟨x,hx,HA⟩:=jf hF hM a a0 a1;obtain⟨v1,v2,v3,v4,v5,v6⟩:=bK hF hx;refine(wL p mn mx aj f k 88 a a _ _ _ _ _ _ _ _ _ _ _ _ (λaT dL=>dV hF hM aj k (λw=>gW aj k hk w) (y8.gr dL)) HA HA (kZ p (oW p aj x x)) (λw=>?_) (oK p mn mx one aI sg nan aj (oW p aj x x)) (λos oe oc oh ol ot of w hq=>Fb hM aj k hk _ os oe oc oh ol ot of hq w)).mono ?_
   .by_cases h3:3<=x.c
    .refine(jG p mn mx aj k _ _ _ _ _ _ _ _ _ _ _ _ 88 x.c om h3 w).mono ?_;rintro e w' ⟨rfl,hg⟩;rw[show oW p aj x x=⟨x.c,0,0,0⟩ from by unfold oW;rw[if_pos h3]];exact⟨_,_,_,_,_,_,_,kZ.nan p _ h3 (by have:=v1.c4;omega),rfl,hg⟩
    .exact CS p mn mx aj k _ _ _ _ _ _ _ _ _ _ _ _ x.c om om _ (λw=>KX hF hM aj k hx om w) w
   .rintro e aT ⟨Z,fl,hp,rfl,dL⟩;rw[zU]at hp;exact⟨_,_,.inl ⟨p,mx,one,aI,sg,nan,x,x,hF,hm,hx,hx,hp⟩,rfl,dL⟩
  .refine(j_ p mn mx aj nan f aj a a (λaT dL=>gJ hF hM aj (λw=>jR aj om w) (y8.gr dL)) (λw=>dh hM w) 88).mono ?_;rintro e aT ⟨rfl,dL⟩;exact⟨_,_,.inr (.inl ⟨p,mx,one,aI,sg,nan,hF,om,rfl,rfl⟩),rfl,dL⟩
 .refine(j_ _ _ _ _ _ f aj a a (λaT dL=>dP f aj hf (y8.gr dL)) (λw=>dh m64 w) 88).mono ?_;rintro e aT ⟨rfl,dL⟩;exact⟨_,_,.inr (.inr ⟨hf,rfl,rfl⟩),rfl,dL⟩
def U0{one:Int}(h:bD f p mx one aI sg nan)(aj a:Int)(hm:0<=aj/\aj<=4)(a0:0<=a)(a1:aG a){x:dM}(hx:dF p mx one aI sg nan a x)(w:World):
  CT 67 #[J f,J aj,Y a] w λe w'=>∃Z fl,oK p (1-mx) mx one aI sg nan aj (oW p aj x x) Z fl/\e=O (aP Z fl)/\Gb w w':=by
 obtain⟨v1,v2,v3,v4,v5,v6⟩:=bK h hx;have xc0:=v1.c0;have xc4:=v1.c4;have jM:=v1.jM;have hb:=h.bounds;by_cases rM:a<2*sg
 .have HF:oI f aj a I:=λw=>jK h aj a a hm.1 hm.2 a0 rM a0 rM w;have eH:=iH h a a0 rM hx;have HQ:∀(t:Bool),t=decide (3<=x.c)->bQ x.c x.s x.e (((x.M:Nat):Int)) t:=λt ht w=>iF _ _ _ _ t ht w;have su:∀t:Bool,oU f t nan (if t then 1 else 0):=λt w=>lZ h t _ rfl w;unfold oW;by_cases c1:3<=x.c
  .rw[if_pos c1];refine(aB7 f aj a _ _ _ _ HF eH (HQ I (by simp[c1])) (decide (x.c=4)) (bq _ _) nan _ (su _) w).mono ?_;rintro e w' ⟨rfl,hg⟩;exact⟨_,_,.inl (oC _ _ rfl om om),rfl,hg⟩
  .rw[if_neg c1];have oO:=HQ E jl;by_cases cz:x.c=0
   .rw[if_pos cz];refine(YS f aj a _ _ _ _ HF eH oO cz (sw x.s sg 0) 0 (λw=>jJ h _ jM w) w).mono ?_;rintro e w' ⟨rfl,hg⟩;exact⟨_,_,.inl (.inl ⟨rfl,rfl,rfl⟩),rfl,hg⟩
   .rw[if_neg cz];by_cases cs:x.s=1
    .rw[if_pos cs];refine(aB6 f aj a _ _ _ _ HF eH oO (by simp[cz]) cs nan 1 (λw=>cO h w) w).mono ?_;rintro e w' ⟨rfl,hg⟩;exact⟨_,_,.inl (iW rfl),rfl,hg⟩
    .rw[if_neg cs];have s0:x.s=0:=by rcases jM with s|s;exact s;exact absurd s cs
     by_cases ci:x.c=2
     .rw[if_pos ci];refine(aB8 f aj a _ _ _ _ HF eH oO ci s0 (sw 0 sg aI) 0 (λw=>dQ h _ (.inl rfl) w) w).mono ?_;rintro e w' ⟨rfl,hg⟩;exact⟨_,_,.inl (.inr (.inr (.inl ⟨rfl,rfl,rfl⟩))),rfl,hg⟩
     .rw[if_neg ci];have cx:x.c=1:=om;obtain⟨Pn,hP,X9,Tz,hA,hA2⟩:=qH h hx cx;obtain⟨od,hod⟩:∃od:Nat,(x.e+(p-1))%2=(od:Int):=⟨((x.e+(p-1))%2).toNat,om⟩;obtain⟨C,st,hC,hst,r1,r2,r3,r4,r5,r6,r7⟩:=LK hP X9 Tz hA hA2 x.e _ _ od rfl hod rfl;obtain⟨Pl,hPl⟩:=x_n (nH p x.e);have aSD:Pl=nH p x.e:=hPl;rw[<-hPl]at r4 r5 r7⊢
      have aR2:Pl=Pn+8/\(x.e-(p+8))%2=0\/Pl=Pn+9/\(x.e-(p+8))%2=1:=by
       rw[hPl];unfold nH;by_cases c:(x.e-(p+8))%2=0
       .rw[if_pos c];exact .inl ⟨om,c⟩
       .rw[if_neg c];exact .inr ⟨om,om⟩
      clear hPl aSD r6;have HRt:Hid (∀v w,aH 8 w v (x.M*2^Pl)->CT 151 #[v] w (sV 8 (gV (x.M*2^Pl)) w)):=λv w ⟨n,n1,n2⟩=>by
       refine(Zv n2 om).mono ?_;rintro e w' ⟨r,k,R,rfl,hb,hk,hr,hg⟩;obtain⟨b,c,rfl,_⟩:=Big.shape hb;rw[<-hr.one (Vs _)];exact⟨b,k,c,⟨k,om,hb⟩,rfl,hg⟩
      obtain⟨z0,lF⟩:=x_n (iK (gV (x.M*2^Pl)*gV (x.M*2^Pl)) (x.M*2^Pl));have HCm:Hid (∀v v' w,aH 16 w v (gV (x.M*2^Pl)*gV (x.M*2^Pl))->aH 8 w v' (x.M*2^Pl)->QB 133 #[v,v'] w (J z0)):=λv v' w ⟨n,n1,n2⟩ ⟨n',n1',n2'⟩=>by
       rw[lF];exact jD n2 om n2' om
      have hzr:(z0 != 0)=decide (gV (x.M*2^Pl)*gV (x.M*2^Pl)≠x.M*2^Pl):=by
       rw[lF];unfold iK;by_cases c:gV (x.M*2^Pl)*gV (x.M*2^Pl)=x.M*2^Pl
       .rw[if_neg om,if_neg (by omega)];simp[c]
       .by_cases c2:gV (x.M*2^Pl)*gV (x.M*2^Pl)<x.M*2^Pl
        .rw[if_pos c2];simp[c]
        .rw[if_neg c2,if_pos (by omega)];simp[c]
      have HR:∀q:Int,q=(x.e-Pl)/2->Hid (∀v w,aH 8 w v (gV (x.M*2^Pl))->CT 138 #[J f,J aj,.agg #[J 0,v,J q,X (decide (gV (x.M*2^Pl)*gV (x.M*2^Pl)≠x.M*2^Pl))]] w λe w'=>∃z fl,oK p (1-mx) mx one aI sg nan aj ⟨1,0,(x.e-Pl)/2-1,sqM Pl x.M⟩ z fl/\e=O (aP z fl)/\Gb w w'):=λq hq v w hB=>by
       rw[hq];exact E5 h aj hm.1 hm.2 ⟨1,0,(x.e-Pl)/2-1,sqM Pl x.M⟩ rfl (.inl rfl) _ r4 ((x.e-Pl)/2) om om _ r5 (λmn mx one aI aj z fl=>r7 _ _ _ _ _ _ _ _) 8 om v w hB
      obtain⟨q,hq⟩:=x_n ((x.e-Pl)/2:Int);have Bj:x.e-(Pl:Int)=2*q:=om;have hqd:(x.e-(Pl:Int)).tdiv 2=q:=by rw[Bj];exact Int.mul_tdiv_cancel_left q de
      have hqw:wrap64 q=q:=by unfold wrap64;omega
      rcases aR2 with⟨e1,e2⟩|⟨e1,e2⟩
      .have ht:(x.e-(Pl:Int)).tmod 2=0:=by rw[Bj];exact Int.mul_tmod_right 2 q
       exact YT f aj a _ _ _ _ HF eH oO cx s0 x.M rfl om om om p om om (λw=>qI h w) Pl _ q 0 om om rfl ht de hqd hqw _ z0 hzr _ HRt HCm _ (HR q hq) w
      .obtain⟨r0,Ox⟩:=x_n ((x.e-(p+8)).tmod 2);have jV:(r0 != 0)=I:=by
        have:r0≠0:=by
         intro c;rw[Ox]at c;have:=Int.emod_emod_of_dvd (x.e-(p+8)) (Int.dvd_refl 2);have:=Int.emod_eq_zero_of_dvd (Int.dvd_of_tmod_eq_zero c);omega
        simp[this]
       exact aB5 f aj a _ _ _ _ HF eH oO cx s0 x.M rfl om om om p om om (λw=>qI h w) Pl (p+8) (x.e-(p+8)) _ q r0 rfl rfl Ox.symm jV om om rfl hqd hqw _ z0 hzr _ HRt HCm _ (HR q hq) w
 .refine(EX f aj a (λw=>eG f aj a a a0 a1 a0 a1 (qP h a1 a1 om) w) nan 1 (λw=>cO h w) w).mono ?_;rintro e w' ⟨rfl,hg⟩;have:=jd h hx om;subst this;exact⟨_,_,.inl (iW rfl),rfl,hg⟩
def Ry(f aj a:Int)(a0:0<=a)(a1:aG a)(w:World):
  CT 67 #[J f,J aj,Y a] w λe w'=>∃Z fl,nJ oW f aj a a Z fl/\e=O (aP Z fl)/\Gb w w':=by
 by_cases hf:f=0\/f=1
 .obtain⟨p,mx,one,aI,sg,nan,hF⟩:=eX f hf;by_cases hm:0<=aj/\aj<=4
  .obtain⟨x,hx⟩:=eu hF a a0 a1;refine(U0 hF aj a hm a0 a1 hx w).mono ?_;rintro e w' ⟨Z,fl,hp,rfl,hg⟩;exact⟨_,_,.inl ⟨p,mx,one,aI,sg,nan,x,x,hF,hm,hx,hx,hp⟩,rfl,hg⟩
  .refine(EX f aj a (λw=>eG f aj a a a0 a1 a0 a1 (.inl om) w) nan 1 (λw=>cO hF w) w).mono ?_;rintro e w' ⟨rfl,hg⟩;exact⟨_,_,.inr (.inl ⟨p,mx,one,aI,sg,nan,hF,om,rfl,rfl⟩),rfl,hg⟩
 .refine(EX f aj a (λw=>eG f aj a a a0 a1 a0 a1 (.inr (.inl hf)) w) _ 1 (λw=>lN f hf w) w).mono ?_;rintro e w' ⟨rfl,hg⟩;exact⟨_,_,.inr (.inr ⟨hf,rfl,rfl⟩),rfl,hg⟩
def zI(f aj a:Int)(a0:0<=a)(a1:aG a):
  ∃Z fl:Int,nJ oW f aj a a Z fl/\(∀w,QB 67 #[J f,J aj,Y a] w (aP Z fl))/\
   (∀w,Fm w->QR 32 #[J f,J aj,Y a] w (aP Z fl)):=
 Oa oW 67 32 _ aIh f aj a a a0 a1 a0 a1 (Ry f aj a a0 a1) (S_ f aj a a0 a1)
set_option maxRecDepth 1000000
def aKH{P:Prop}(h:P:=by
 rintro e w' ⟨rfl,hg⟩;exact⟨_,_,.inl (oC _ _ (by rw[decide_eq_decide];omega) om om),rfl,hg⟩):P:=h
def WJ(f a b:Int)(a0:0<=a)(a1:aG a)(b0:0<=b)(b1:aG b)(w:World)(hw:Fm w):
  CT 34 #[J f,Y a,Y b] w λe w'=>∃Z fl,nJ AA f 0 a b Z fl/\e=O (aP Z fl)/\Gr w w':=by
 refine ZO f a b (nJ AA f 0 a b) (λw' hg=>?_);have y8:=hw.gr hg;have hm:(0:Int)<=0/\(0:Int)<=4:=⟨om,om⟩;by_cases hf:f=0\/f=1
 .obtain⟨p,mx,one,aI,sg,nan,hF⟩:=eX f hf;obtain⟨mn,fb,sp,hM,zU,PD⟩:=hF.m;obtain⟨k,hk⟩:=kW 0 hm.1 hm.2;obtain⟨x,hx,HA⟩:=jf hF hM a a0 a1;obtain⟨y,hy,HB⟩:=jf hF hM b b0 b1;obtain⟨v1,v2,v3,v4,v5,v6⟩:=bK hF hx;obtain⟨u1,u2,u3,u4,u5,u6⟩:=bK hF hy;refine(wL p mn mx 0 f k 90 a b _ _ _ _ _ _ _ _ _ _ _ _ (λaT dL=>dV hF hM 0 k (λw=>gW 0 k hk w) (y8.gr dL)) HA HB (kZ p (AA p 0 x y)) (λw=>?_) (oK p mn mx one aI sg nan 0 (AA p 0 x y)) (λos oe oc oh ol ot of w hq=>Fb hM 0 k hk _ os oe oc oh ol ot of hq w)).mono ?_
  .by_cases h3:3<=max x.c y.c
   .refine(jG p mn mx 0 k _ _ _ _ _ _ _ _ _ _ _ _ 90 _ rfl h3 w).mono ?_;rintro e w' ⟨rfl,hg⟩;rw[Dx p 0 x y h3];exact⟨_,_,_,_,_,_,_,kZ.nan p _ h3 (by have:=v1.c4;have:=u1.c4;omega),rfl,hg⟩
   .exact Em p mn mx 0 k _ _ _ _ _ _ _ _ _ _ _ _ _ rfl om _ (λw=>O9 hF mn 0 k hx hy om w) w
  .rintro e aT ⟨Z,fl,hp,rfl,dL⟩;rw[zU]at hp;exact⟨_,_,.inl ⟨p,mx,one,aI,sg,nan,x,y,hF,hm,hx,hy,hp⟩,rfl,dL⟩
 .refine(j_ _ _ _ _ _ f 0 a b (λaT dL=>dP f 0 hf (y8.gr dL)) (λw=>dh m64 w) 90).mono ?_;rintro e aT ⟨rfl,dL⟩;exact⟨_,_,.inr (.inr ⟨hf,rfl,rfl⟩),rfl,dL⟩
def P9{one:Int}(h:bD f p mx one aI sg nan)(ha:a<2*sg){x:dM}(hx:dF p mx one aI sg nan a x)(hc:x.c<=1):bY p (1-mx) mx one aI sg nan aj x a 0:=by
 rcases hx with⟨_,v,hs,hv⟩|⟨c,_⟩
 .have AO:∀z:Int,z=v->a=sw x.s sg z:=λz hz=>by
   rcases hs with⟨h1,h2,h3⟩|⟨h1,h2,h3⟩
   .rw[h1,hz,h2];simp[sw]
   .rw[h1,hz,h2];simp[sw]
  rcases hv with⟨e0,c0,_,_⟩|⟨_,_,c0,_⟩|⟨_,c0,_⟩|⟨_,c0,_⟩|⟨v0,v1,c0,hn⟩
  .exact .inl ⟨c0,AO 0 e0.symm,rfl⟩
  .exfalso;omega
  .exfalso;omega
  .exfalso;omega
  .obtain⟨_,_,_,_,hr⟩:=aBD h aj x.s v x.e (x.M:Int) v0 v1 hn;rw[Int.toNat_natCast]at hr;exact .inr (.inl ⟨c0,v,hr,AO v rfl⟩)
 .exfalso;omega
def YD{one:Int}(h:bD f p mx one aI sg nan)(a b:Int)(a0:0<=a)(a1:aG a)(b0:0<=b)(b1:aG b){x y:dM}(hx:dF p mx one aI sg nan a x)(hy:dF p mx one aI sg nan b y)(w:World):
  CT 68 #[J f,Y a,Y b] w λe w'=>∃Z fl,oK p (1-mx) mx one aI sg nan 0 (AA p 0 x y) Z fl/\e=O (aP Z fl)/\Gb w w':=by
 obtain⟨v1,v2,v3,v4,v5,v6⟩:=bK h hx;obtain⟨u1,u2,u3,u4,u5,u6⟩:=bK h hy;have xc0:=v1.c0;have xc4:=v1.c4;have yc0:=u1.c0;have yc4:=u1.c4;have hb:=h.bounds;have sa0:0<=x.s:=by have:=v1.jM;omega
 have sa1:x.s<=1:=by have:=v1.jM;omega
 by_cases rM:a<2*sg/\b<2*sg
 .obtain⟨fa,NP⟩:=rM;have HF:dG f 0 a b I:=λw=>jK h 0 a b om om a0 fa b0 NP w;have eH:=iH h a a0 fa hx;have fP:=iH h b b0 NP hy;have HQ:∀(z:dM) (t:Bool),t=decide (3<=z.c)->bQ z.c z.s z.e (((z.M:Nat):Int)) t:=λz t ht w=>iF _ _ _ _ t ht w;have su:∀t:Bool,oU f t nan (if t then 1 else 0):=λt w=>lZ h t _ rfl w;by_cases c1:3<=x.c
  .rw[Dx p 0 x y (by omega)];by_cases c2:x.c=4
   .refine(aCd f a b _ _ _ _ _ _ _ _ HF eH fP (HQ x I (by simp[c1])) (by simp[c2]) nan _ (su I) w).mono ?_;rintro e w' ⟨rfl,hg⟩;exact⟨_,_,.inl (oC _ I jl om om),rfl,hg⟩
   .refine(aCc f a b _ _ _ _ _ _ _ _ HF eH fP (HQ x I (by simp[c1])) (by simp[c2]) (decide (y.c=4)) (bq _ _) nan _ (su _) w).mono ?_;exact aKH
  .by_cases c2:3<=y.c
   .rw[Dx p 0 x y (by omega)];refine(aCb f a b _ _ _ _ _ _ _ _ HF eH fP (HQ x E jl) (HQ y I (by simp[c2])) jl (decide (y.c=4)) (bq _ _) nan _ (su _) w).mono ?_;exact aKH
   .have oO:=HQ x E jl;have sH:=HQ y E jl;unfold AA;rw[if_neg (om:¬3<=max x.c y.c)];by_cases cx2:x.c=2
    .rw[if_pos (.inl cx2)];refine(aCf f a b _ _ _ _ _ _ _ _ HF eH fP oO sH cx2 nan 1 (λw=>cO h w) w).mono ?_;rintro e w' ⟨rfl,hg⟩;exact⟨_,_,.inl (iW rfl),rfl,hg⟩
    .by_cases cy0:y.c=0
     .rw[if_pos (.inr cy0)];refine(aCe f a b _ _ _ _ _ _ _ _ HF eH fP oO sH (by simp[cx2]) cy0 nan 1 (λw=>cO h w) w).mono ?_;rintro e w' ⟨rfl,hg⟩;exact⟨_,_,.inl (iW rfl),rfl,hg⟩
     .rw[if_neg (om:¬(x.c=2\/y.c=0))];by_cases cx0:x.c=0
      .rw[if_pos (.inl cx0)];refine(aCa f a b _ _ _ _ _ _ _ _ HF eH fP oO sH cx0 (by simp[cy0]) w).mono ?_;rintro e w' ⟨rfl,hg⟩;exact⟨_,_,.inl (P9 h fa hx om),rfl,hg⟩
      .have cx:x.c=1:=om;by_cases cy2:y.c=2
       .rw[if_pos (.inr cy2)];refine(aFm f a b _ _ _ _ _ _ _ _ HF eH fP oO sH cx cy2 w).mono ?_;rintro e w' ⟨rfl,hg⟩;exact⟨_,_,.inl (P9 h fa hx om),rfl,hg⟩
       .have cy:y.c=1:=om;rw[if_neg (om:¬(x.c=0\/y.c=2))];have zY:0<y.M:=(u1.fin cy).1;have JJ:0<og x y:=Nat.mul_pos zY (Nat.pow_pos de);have HZ:∀(w:World),pV (nR x y) (og x y)=0->CT 137 #[J f,J x.s] w λe w'=>∃z fl,oK p (1-mx) mx one aI sg nan 0 (if pV (nR x y) (og x y)=0 then(⟨0,x.s,0,0⟩:dM)else⟨1,if oZ (nR x y) (og x y)then 1-x.s else x.s,min x.e y.e,pV (nR x y) (og x y)⟩) z fl/\e=O (aP z fl)/\Gr w w':=λw hz=>by
         rw[if_pos hz];refine(jJ h _ v1.jM w).mono ?_;rintro e w' ⟨rfl,hg⟩;exact⟨_,_,.inl (.inl ⟨rfl,rfl,rfl⟩),rfl,hg⟩
        have HR:∀(e:Int),e=min x.e y.e->∀(v:Value) (w:World),0<pV (nR x y) (og x y)->aH 1000 w v (pV (nR x y) (og x y))->CT 138 #[J f,J 0,.agg #[J (if oZ (nR x y) (og x y)then 1-x.s else x.s),v,J e,X E]] w λe w'=>∃z fl,oK p (1-mx) mx one aI sg nan 0 (if pV (nR x y) (og x y)=0 then(⟨0,x.s,0,0⟩:dM)else⟨1,if oZ (nR x y) (og x y)then 1-x.s else x.s,min x.e y.e,pV (nR x y) (og x y)⟩) z fl/\e=O (aP z fl)/\Gb w w':=λe he v w jm hB=>by
         rw[if_neg (om:¬pV (nR x y) (og x y)=0),he];refine(mW h 0 om om ⟨1,if oZ (nR x y) (og x y)then 1-x.s else x.s,min x.e y.e,pV (nR x y) (og x y)⟩ rfl (by dsimp only;split<;>omega) jm (by dsimp only;omega) (by dsimp only;omega) 1000 om v w hB).mono ?_;rintro e w' ⟨z,fl,hp,he,hg⟩;exact⟨z,fl,.inl hp,he,hg⟩
        exact aFl f a b _ _ _ _ _ _ _ _ HF eH fP oO sH cx cy x.M y.M rfl rfl om om om om om om sa0 sa1 (min x.e y.e) (x.e-min x.e y.e) (y.e-min x.e y.e) (x.e-min x.e y.e).toNat (y.e-min x.e y.e).toNat (by
         by_cases fF:y.e<x.e
         .exact .inl ⟨fF,om,by rw[IntKind.wrap_i64];omega,om⟩
         .exact .inr ⟨fF,om,by rw[IntKind.wrap_i64];omega,om⟩) (show _/\_ from ⟨om,om⟩) ⟨om,om⟩ (nR x y) (og x y) rfl rfl JJ _ (HR _ rfl) HZ w
 .refine(Vo f a b (λw=>eG f 0 a b a0 a1 b0 b1 (qP h a1 b1 om) w) nan 1 (λw=>cO h w) w).mono ?_;rintro e w' ⟨rfl,hg⟩;refine⟨_,_,?_,rfl,hg⟩;have:max x.c y.c=4:=by
   rcases(om:2*sg<=a\/2*sg<=b)with c|c
   .have:=jd h hx c;subst this;dsimp only at*;omega
   .have:=jd h hy c;subst this;dsimp only at*;omega
  rw[Dx p 0 x y (by omega)];exact .inl (iW this)
def U5(f a b:Int)(a0:0<=a)(a1:aG a)(b0:0<=b)(b1:aG b)(w:World):
  CT 68 #[J f,Y a,Y b] w λe w'=>∃Z fl,nJ AA f 0 a b Z fl/\e=O (aP Z fl)/\Gb w w':=by
 by_cases hf:f=0\/f=1
 .obtain⟨p,mx,one,aI,sg,nan,hF⟩:=eX f hf;obtain⟨x,hx⟩:=eu hF a a0 a1;obtain⟨y,hy⟩:=eu hF b b0 b1;refine(YD hF a b a0 a1 b0 b1 hx hy w).mono ?_;rintro e w' ⟨Z,fl,hp,rfl,hg⟩;exact⟨_,_,.inl ⟨p,mx,one,aI,sg,nan,x,y,hF,⟨om,om⟩,hx,hy,hp⟩,rfl,hg⟩
 .refine(Vo f a b (λw=>eG f 0 a b a0 a1 b0 b1 (.inr (.inl hf)) w) _ 1 (λw=>lN f hf w) w).mono ?_;rintro e w' ⟨rfl,hg⟩;exact⟨_,_,.inr (.inr ⟨hf,rfl,rfl⟩),rfl,hg⟩
def aFH(f a b:Int)(a0:0<=a)(a1:aG a)(b0:0<=b)(b1:aG b):
  ∃Z fl:Int,nJ AA f 0 a b Z fl/\(∀w,Ol f a b w Z fl)/\
   (∀w,Fm w->QR 34 #[J f,Y a,Y b] w (aP Z fl)):=
 Oa AA 68 34 _ aMz f 0 a b a0 a1 b0 b1 (U5 f a b a0 a1 b0 b1) (WJ f a b a0 a1 b0 b1)
set_option maxRecDepth 1000000
set_option maxHeartbeats 40000000
def aJe(aF a B d:Int)(M L:Nat)(t:Bool)(B0:0<B)(hd:decide (d<=0)=t)(HK:pI aF B E)(HB:Hid (∀w,CT 132 #[Y a] w (sV 2 M w)))(HM:Hid (∀w,CT 134 #[J aF,J 0] w (sV 20 L w)))(HC:Hid (∀v v' w,aH 2 w v M->aH 20 w v' L->QB 133 #[v,v'] w (J d)))(w:World):
  CT 58 #[J aF,Y a] w λe w'=>∃b k c,aH 2 w' (aC b k c) M/\e=O (.tuple #[.agg #[J 0,aC b k c,J 0,X E],X t])/\Gb w w':=by
 go_enter func58,ntmps58;go_upto_region 3 with(first|(go_at_call 131;refine kw (HK _) ?_)|(go_at_call 132;refine(HB _).mono ?_;rintro e n1 ⟨b1,k1,q1,gU,rfl,mZ⟩;have wC:=mZ.OB w;have iR:=au wC.1))
 obtain⟨w2,jA⟩:=dK (n1.alloc (.cells #[J 0,aC b1 k1 q1,J 0,X E] 95));have aB:Gb n1 w2:=by rw[<-jA];exact(Gb.refl _).alloc _
 have lC:aH 2 w2 (aC b1 k1 q1) M:=aH.gb gU aB;have x0:w2.cell? ⟨n1.heap.size,0,V⟩=U (J 0):=by rw[<-jA];simp[go_sem]
 have x1:w2.cell? ⟨n1.heap.size,1,V⟩=U (aC b1 k1 q1):=by rw[<-jA];simp[go_sem]
 have x2:w2.cell? ⟨n1.heap.size,2,V⟩=U (J 0):=by rw[<-jA];simp[go_sem]
 have x3:w2.cell? ⟨n1.heap.size,3,V⟩=U (X E):=by rw[<-jA];simp[go_sem]
 have lu:n1.heap.size<w2.heap.size:=by rw[<-jA];simp
 rw[jA];clear jA;have:=aB.OB w;have X8:Gb w w2:=Gb.g;go_wp2;go_region_held3 (λw'=>oV w' n1.heap.size 0 1 2 3 (J 0) (aC b1 k1 q1) (J 0) (X E))(exact nX)(first|(go_at_call 134;refine(HM _).mono ?_;rintro e n3 ⟨b3,k3,q3,qm,rfl,y9⟩;have:=y9.OB w)|(go_at_call 133;with_reducible refine ku (HC.out _ _ _ (aH.gb lC Gb.g) (aH.gb qm Gb.g)) λn4 ig=>?_;have Iu:=ig.OB w))
 all_goals go_wp2
 all_goals
  refine bodyPost_ret (v:=.tuple #[.agg #[J 0,aC b1 k1 q1,J 0,X E],X t]) (by simp[results,Tryz.results58,go_sem,Iu,hd]) rfl ⟨b1,k1,q1,?_,rfl,?_⟩
  .exact(aH.gb lC Gb.g).st4 Iu.1 Iu.2.2.1 Iu.2.2.2.2.1 Iu.2.2.2.2.2.2.1
  .exact Gb.g
def aH.aQ0(h:aH K w v N)(hq:∀d,q≠ .int .u32 d)(h0:aA w r 0 (J x0))(h1:aA w r 1 q)(h2:aA w r 2 (J x2))(h3:aA w r 3 (X x3)):
  aH K ((((w.setCell ⟨r,0,V⟩ u0).setCell ⟨r,1,V⟩ u1).setCell ⟨r,2,V⟩ u2).setCell ⟨r,3,V⟩ u3) v N:=
 (((h.st u0 h0 (λd e=>by cases e)).st u1 (bI om h1) hq).st u2 (bI om (bI om h2)) (λd e=>by cases e)).st u3 (bI om (bI om (bI om h3))) (λd e=>by cases e)
def aJg(aF a an B d:Int)(N M L:Nat)(t:Bool)(B0:0<B)(hd:decide (d<=0)=t)(ha:decide (9223372036854775808<=a)=I)(han:IntKind.u64.wrap (0-a)=an)(aUH:IntKind.u64.wrap (-a)=an)(HK:pI aF B I)(HB:Hid (∀w,CT 132 #[Y a] w (sV 2 N w)))(HB2:Hid (∀w,CT 132 #[Y an] w (sV 2 M w)))(HT:KW 117 #[J 63] (Y 9223372036854775808))(HM:Hid (∀w,CT 134 #[J aF,J 1] w (sV 20 L w)))(HC:Hid (∀v v' w,aH 2 w v M->aH 20 w v' L->QB 133 #[v,v'] w (J d)))(w:World):
  CT 58 #[J aF,Y a] w λe w'=>∃b k c,aH 2 w' (aC b k c) M/\e=O (.tuple #[.agg #[J 1,aC b k c,J 0,X E],X t])/\Gb w w':=by
 go_enter func58,ntmps58;go_upto_region 3 with(first|(go_at_call 131;refine kw (HK _) ?_)|(go_at_call 132;refine(HB _).mono ?_;rintro e n1 ⟨b1,k1,q1,gU,rfl,mZ⟩;have wC:=mZ.OB w;have iR:=au wC.1))
 obtain⟨w2,jA⟩:=dK (n1.alloc (.cells #[J 0,aC b1 k1 q1,J 0,X E] 95));have aB:Gb n1 w2:=by rw[<-jA];exact(Gb.refl _).alloc _
 have lC:aH 2 w2 (aC b1 k1 q1) N:=aH.gb gU aB;have x0:w2.cell? ⟨n1.heap.size,0,V⟩=U (J 0):=by rw[<-jA];simp[go_sem]
 have x1:w2.cell? ⟨n1.heap.size,1,V⟩=U (aC b1 k1 q1):=by rw[<-jA];simp[go_sem]
 have x2:w2.cell? ⟨n1.heap.size,2,V⟩=U (J 0):=by rw[<-jA];simp[go_sem]
 have x3:w2.cell? ⟨n1.heap.size,3,V⟩=U (X E):=by rw[<-jA];simp[go_sem]
 have xz0:dB w2 n1.heap.size 0:=by rw[<-jA];simp[go_sem]
 have xz1:dB w2 n1.heap.size 1:=by rw[<-jA];simp[go_sem]
 have xz2:dB w2 n1.heap.size 2:=by rw[<-jA];simp[go_sem]
 have xz3:dB w2 n1.heap.size 3:=by rw[<-jA];simp[go_sem]
 have lu:n1.heap.size<w2.heap.size:=by rw[<-jA];simp
 rw[jA];clear jA;have:=aB.OB w;have X8:Gb w w2:=Gb.g;go_upto_region 5 with(first|(go_at_call 117;refine kw (HT _) ?_)|(go_at_call 132;refine(HB2 _).mono ?_;rintro e n5 ⟨b5,k5,q5,hb5,rfl,jF⟩;have:=jF.OB w;have px0:=jF.OB n1;have hz5:=au px0.1))
 obtain⟨w6,uY⟩:=dK ((((n5.setCell ⟨n1.heap.size,0,V⟩ (J 1)).setCell ⟨n1.heap.size,1,V⟩ (aC b5 k5 q5)).setCell ⟨n1.heap.size,2,V⟩ (J 0)).setCell ⟨n1.heap.size,3,V⟩ (X E));have aPH:Gb w n5:=Gb.g;have fF:w.heap.size<=n1.heap.size:=om;have fK:Gb w w6:=by
  rw[<-uY];exact(((aPH.setCell (a:=⟨n1.heap.size,0,V⟩) fF _).setCell (a:=⟨n1.heap.size,1,V⟩) fF _).setCell (a:=⟨n1.heap.size,2,V⟩) fF _).setCell (a:=⟨n1.heap.size,3,V⟩) fF _
 have y0:w6.cell? ⟨n1.heap.size,0,V⟩=U (J 1):=by rw[<-uY];exact kh
 have y1:w6.cell? ⟨n1.heap.size,1,V⟩=U (aC b5 k5 q5):=by rw[<-uY];exact kh
 have y2:w6.cell? ⟨n1.heap.size,2,V⟩=U (J 0):=by rw[<-uY];exact kh
 have y3:w6.cell? ⟨n1.heap.size,3,V⟩=U (X E):=by rw[<-uY];exact kh
 have hb6:aH 2 w6 (aC b5 k5 q5) M:=by rw[<-uY];exact hb5.aQ0 (λd e=>by cases e) px0.1 px0.2.2.1 px0.2.2.2.2.1 px0.2.2.2.2.2.2.1
 have tr0:w6.cell? ⟨w.heap.size,0,V⟩=U (J 0):=by rw[<-uY];exact kh
 have tr1:w6.cell? ⟨w.heap.size,1,V⟩=U (.slice V 0 0):=by rw[<-uY];exact kh
 have tr2:w6.cell? ⟨w.heap.size,2,V⟩=U (J 0):=by rw[<-uY];exact kh
 have tr3:w6.cell? ⟨w.heap.size,3,V⟩=U (X E):=by rw[<-uY];exact kh
 have aTF:dB w6 w.heap.size 0:=by rw[<-uY];exact kh
 have aTE:dB w6 w.heap.size 1:=by rw[<-uY];exact kh
 have aTD:dB w6 w.heap.size 2:=by rw[<-uY];exact kh
 have aTC:dB w6 w.heap.size 3:=by rw[<-uY];exact kh
 rw[uY];clear uY;go_region_held3 (λw'=>oV w' n1.heap.size 0 1 2 3 (J 1) (aC b5 k5 q5) (J 0) (X E))(exact nX)(first|(go_at_call 134;refine(HM _).mono ?_;rintro e n3 ⟨b3,k3,q3,qm,rfl,y9⟩;have:=y9.OB w)|(go_at_call 133;with_reducible refine ku (HC.out _ _ _ (aH.gb hb6 Gb.g) (aH.gb qm Gb.g)) λn4 ig=>?_;have Iu:=ig.OB w))
 all_goals go_wp2
 all_goals
  refine bodyPost_ret (v:=.tuple #[.agg #[J 1,aC b5 k5 q5,J 0,X E],X t]) (by simp[results,Tryz.results58,go_sem,Iu,hd]) rfl ⟨b5,k5,q5,?_,rfl,?_⟩
  .exact(aH.gb hb6 Gb.g).st4 Iu.1 Iu.2.2.1 Iu.2.2.2.2.1 Iu.2.2.2.2.2.2.1
  .exact Gb.g
section
attribute [local go_sem] undef
def aJd(aF a:Int)(M:Nat)(HK:pI aF 0 E)(HB:Hid (∀w,CT 132 #[Y a] w (sV 2 M w)))(w:World):
  CT 58 #[J aF,Y a] w λe w'=>∃b k c,aH 2 w' (aC b k c) M/\e=O (.tuple #[.agg #[J 0,aC b k c,J 0,X E],X E])/\Gb w w':=by
 go_enter func58,ntmps58;go_upto_region 3 with(first|(go_at_call 131;refine kw (HK _) ?_)|(go_at_call 132;refine(HB _).mono ?_;rintro e n1 ⟨b1,k1,q1,gU,rfl,mZ⟩;have wC:=mZ.OB w;have iR:=au wC.1))
 obtain⟨w2,jA⟩:=dK (n1.alloc (.cells #[J 0,aC b1 k1 q1,J 0,X E] 95));have aB:Gb n1 w2:=by rw[<-jA];exact(Gb.refl _).alloc _
 have lC:aH 2 w2 (aC b1 k1 q1) M:=aH.gb gU aB;have x0:w2.cell? ⟨n1.heap.size,0,V⟩=U (J 0):=by rw[<-jA];simp[go_sem]
 have x1:w2.cell? ⟨n1.heap.size,1,V⟩=U (aC b1 k1 q1):=by rw[<-jA];simp[go_sem]
 have x2:w2.cell? ⟨n1.heap.size,2,V⟩=U (J 0):=by rw[<-jA];simp[go_sem]
 have x3:w2.cell? ⟨n1.heap.size,3,V⟩=U (X E):=by rw[<-jA];simp[go_sem]
 have lu:n1.heap.size<w2.heap.size:=by rw[<-jA];simp
 rw[jA];clear jA;have AL:=aB.OB w;have X8:Gb w w2:=Gb.g;go_wp2;first|go_region|fail
 all_goals go_wp2
 all_goals
  refine bodyPost_ret (v:=.tuple #[.agg #[J 0,aC b1 k1 q1,J 0,X E],X E]) (by simp[results,Tryz.results58,go_sem,AL]) rfl ⟨b1,k1,q1,?_,rfl,?_⟩
  .exact(aH.gb lC Gb.g).st4 AL.1 AL.2.2.1 AL.2.2.2.2.1 AL.2.2.2.2.2.2.1
  .exact Gb.g
end
def FI(aF a:Int):dM:=if jg aF a=0 then⟨0,0,0,0⟩else⟨1,gu aF a,0,jg aF a⟩
def gQ(f aj aF a Z fl:Int):Prop:=
 (∃p mx one aI sg nan,bD f p mx one aI sg nan/\(0<=aj/\aj<=4)/\iJ aF a=I/\bY p (1-mx) mx one aI sg nan aj (FI aF a) Z fl)\/
 (∃p mx one aI sg nan,bD f p mx one aI sg nan/\(¬(0<=aj/\aj<=4)\/iJ aF a=E)/\Z=nan/\fl=1)\/
 (¬(f=0\/f=1)/\Z=9221120237041090560/\fl=1)
def gQ.one(h:gQ f aj aF a Z fl)(h':gQ f aj aF a Z' oP):Z=Z'/\fl=oP:=by
 rcases h with⟨p,mx,one,aI,sg,nan,hF,hm,hk,hp⟩|⟨p,mx,one,aI,sg,nan,hF,hm,rfl,rfl⟩|⟨hF,rfl,rfl⟩<;>
 rcases h' with⟨p',wS,pX,ql,EM,pY,mG,I_,C_,Qs⟩|⟨p',wS,pX,ql,EM,pY,mG,I_,rfl,rfl⟩|⟨mG,rfl,rfl⟩
 .obtain⟨rfl,rfl,rfl,rfl,rfl,rfl⟩:=hF.one mG;exact bY.one hp Qs
 .exfalso;rcases I_ with h|h
  .exact h hm
  .rw[hk]at h;cases h
 .exact absurd hF.yes.symm (by simp[mG])
 .exfalso;rcases hm with h|h
  .exact h I_
  .rw[C_]at h;cases h
 .obtain⟨rfl,rfl,rfl,rfl,rfl,rfl⟩:=hF.one mG;exact⟨rfl,rfl⟩
 .exact absurd hF.yes.symm (by simp[mG])
 .exact absurd mG.yes.symm (by simp[hF])
 .exact absurd mG.yes.symm (by simp[hF])
 .exact⟨rfl,rfl⟩
def aGz(aF a:Int):0<=(FI aF a).c /\(FI aF a).c <=4:=by unfold FI;split<;>(dsimp only;omega)
def TF(f aj aF a:Int):∃Z fl,gQ f aj aF a Z fl:=by
 by_cases hf:f=0\/f=1
 .obtain⟨p,mx,one,aI,sg,nan,hF⟩:=eX f hf;by_cases hm:0<=aj/\aj<=4
  .cases hk:iJ aF a
   .exact⟨_,_,.inr (.inl ⟨p,mx,one,aI,sg,nan,hF,.inr hk,rfl,rfl⟩)⟩
   .obtain⟨Z,fl,hp⟩:=zL p (1-mx) mx one aI sg nan aj _ (aGz aF a).1 (aGz aF a).2;exact⟨Z,fl,.inl ⟨p,mx,one,aI,sg,nan,hF,hm,hk,hp⟩⟩
  .exact⟨_,_,.inr (.inl ⟨p,mx,one,aI,sg,nan,hF,.inl hm,rfl,rfl⟩)⟩
 .exact⟨_,_,.inr (.inr ⟨hf,rfl,rfl⟩)⟩
def aJU(M L:Nat):decide (iK M L<=0)=decide (M<=L):=by
 unfold iK;by_cases h:M<=L
 .rw[decide_eq_true h,decide_eq_true];split<;>(try split)<;>omega
 .rw[decide_eq_false h,decide_eq_false];rw[if_neg om,if_pos (by omega)];omega
def Qg(aF a:Int)(a0:0<=a)(a1:aG a)(w:World):
  CT 58 #[J aF,Y a] w λe w'=>∃b k c,aH 2 w' (aC b k c) (jg aF a)/\e=O (.tuple #[.agg #[J (gu aF a),aC b k c,J 0,X E],X (iJ aF a)])/\Gb w w':=by
 have HB:∀(v:Int) (N:Nat),v=(N:Int)->aG N->Hid (∀w,CT 132 #[Y v] w (sV 2 N w)):=by
  intro v N e h w;subst e;exact dY ((gY N h w).mono (λe w' ⟨v,k,c1,c2,c3,c4⟩=>⟨v,k,c1,c2,om,c4⟩))
 have HM:∀s,s=0\/s=1->Hid (∀w,CT 134 #[J aF,J s] w (sV 20 (fH aF s) w)):=λs hs w=>M_ aF s hs w;have HC:∀M L:Nat,Hid (∀v v' w,aH 2 w v M->aH 20 w v' L->QB 133 #[v,v'] w (J (iK M L))):=λM L v v' w ⟨n,h1,h2⟩ ⟨n',h1',h2'⟩=>jD h2 om h2' om;have HT:KW 117 #[J 63] (Y 9223372036854775808):=λw=>kN 63 _ om de w;have ht:a=((a.toNat:Nat):Int):=om;have kd:∀B S,rQ aF=B->BL aF=S->pI aF B S:=by
  intro B S e1 e2 w;rw[<-e1,<-e2];exact qj aF w
 by_cases hk:0<=aF/\aF<=3
 .have hB:0<rQ aF:=by rcases(om:aF=0\/aF=1\/aF=2\/aF=3)with rfl|rfl|rfl|rfl<;>decide
  have ft:decide (iK (jg aF a) (fH aF (gu aF a))<=0)=iJ aF a:=by
   rw[aJU];unfold iJ;rw[decide_eq_decide];exact⟨λh=>⟨hk,h⟩,λh=>h.2⟩
  by_cases hs:aF=0\/aF=1
  .have hS:BL aF=I:=by unfold BL;exact decide_eq_true hs
   by_cases hh:9223372036854775808<=a
   .have e1:gu aF a=1:=by unfold gu;rw[if_pos ⟨hs,hh⟩]
    have e2:jg aF a=(18446744073709551616-a).toNat :=by unfold jg;rw[if_pos ⟨hs,hh⟩]
    have Pv:IntKind.u64.wrap (0-a)=18446744073709551616-a:=wu;have jA:IntKind.u64.wrap (-a)=18446744073709551616-a:=wu;rw[e1]at ft⊢
    exact aJg aF a (18446744073709551616-a) (rQ aF) _ a.toNat _ _ _ hB ft (decide_eq_true hh) Pv jA (kd _ _ rfl hS) (HB a _ ht om) (HB _ _ (by rw[e2];omega) (DU aF a a0 a1)) HT (HM 1 (.inr rfl)) (HC _ _) w
   .have e1:gu aF a=0:=by unfold gu;rw[if_neg (λh=>hh h.2)]
    have e2:jg aF a=a.toNat:=by unfold jg;rw[if_neg (λh=>hh h.2)]
    rw[e1]at ft⊢
    exact aJf aF a (rQ aF) _ _ _ _ hB ft (decide_eq_false hh) (kd _ _ rfl hS) (HB a _ (by rw[e2];exact ht) (DU aF a a0 a1)) HT (HM 0 (.inl rfl)) (HC _ _) w
  .have hS:BL aF=E:=by unfold BL;exact decide_eq_false hs
   have e1:gu aF a=0:=by unfold gu;rw[if_neg (λh=>hs h.1)]
   have e2:jg aF a=a.toNat:=by unfold jg;rw[if_neg (λh=>hs h.1)]
   rw[e1]at ft⊢
   exact aJe aF a (rQ aF) _ _ _ _ hB ft (kd _ _ rfl hS) (HB a _ (by rw[e2];exact ht) (DU aF a a0 a1)) (HM 0 (.inl rfl)) (HC _ _) w
 .have hs:¬(aF=0\/aF=1):=om;have e1:gu aF a=0:=by unfold gu;rw[if_neg (λh=>hs h.1)]
  have e2:jg aF a=a.toNat:=by unfold jg;rw[if_neg (λh=>hs h.1)]
  have e3:iJ aF a=E:=by unfold iJ;exact decide_eq_false (λh=>hk h.1)
  rw[e1,e3];exact aJd aF a _ (kd _ _ (by unfold rQ;rw[if_neg om,if_neg (by omega)]) (by unfold BL;exact decide_eq_false hs)) (HB a _ (by rw[e2];exact ht) (DU aF a a0 a1)) w
def kF(f aj aF a:Int)(a0:0<=a)(a1:aG a)(w:World):
  CT 60 #[J f,J aj,J aF,Y a] w λe w'=>∃Z fl,gQ f aj aF a Z fl/\e=O (aP Z fl)/\Gb w w':=by
 have HX:∀t,iJ aF a=t->Hid (∀w,CT 58 #[J aF,Y a] w λe w'=>∃b k c,aH 2 w' (aC b k c) (jg aF a)/\e=O (.tuple #[.agg #[J (gu aF a),aC b k c,J 0,X E],X t])/\Gb w w'):=λt ht w=>ht▸Qg aF a a0 a1 w;have fin:∀Z fl,gQ f aj aF a Z fl->(QB 60 #[J f,J aj,J aF,Y a] w (aP Z fl))->CT 60 #[J f,J aj,J aF,Y a] w λe w'=>∃Z fl,gQ f aj aF a Z fl/\e=O (aP Z fl)/\Gb w w':=λZ fl hp h=>h.mono (λe w' ⟨h1,h2⟩=>⟨Z,fl,hp,h1,h2⟩);by_cases hf:f=0\/f=1
 .obtain⟨p,mx,one,aI,sg,nan,hF⟩:=eX f hf;cases hk:iJ aF a
  .exact fin nan 1 (.inr (.inl ⟨p,mx,one,aI,sg,nan,hF,.inr hk,rfl,rfl⟩)) (LC f aj aF a _ nan 1 _ (HX E hk) (λw=>cO hF w) w)
  .have Kq:KW 50 #[J f] (X I):=λw=>jh f I (by simp[hf]) w;by_cases hm:0<=aj/\aj<=4
   .have QM:lV aj I:=λw=>l7 aj I (by simp[hm]) w;rcases Nat.eq_zero_or_pos (jg aF a)with h0|h0
    .refine fin (sw 0 sg 0) 0 (.inl ⟨p,mx,one,aI,sg,nan,hF,hm,hk,?_⟩) (YV f aj aF a _ _ _ _ h0 (HX I hk) Kq QM (λw=>jJ hF 0 (.inl rfl) w) w);unfold FI;rw[if_pos h0];exact .inl ⟨rfl,rfl,rfl⟩
    .refine(aCo f aj aF a _ _ h0 (HX I hk) Kq QM (bY p (1-mx) mx one aI sg nan aj ⟨1,gu aF a,0,jg aF a⟩) (λv w hB=>mW hF aj hm.1 hm.2 ⟨1,gu aF a,0,jg aF a⟩ rfl (Vd aF a) h0 (by dsimp only;omega) (by dsimp only;omega) 2 om v w hB) w).mono ?_;rintro e w' ⟨Z,fl,hp,rfl,hg⟩;refine⟨Z,fl,.inl ⟨p,mx,one,aI,sg,nan,hF,hm,hk,?_⟩,rfl,hg⟩;unfold FI;rw[if_neg (by omega)];exact hp
   .exact fin nan 1 (.inr (.inl ⟨p,mx,one,aI,sg,nan,hF,.inl hm,rfl,rfl⟩)) (YW f aj aF a _ nan 1 _ (HX I hk) Kq (λw=>l7 aj E jl w) (λw=>cO hF w) w)
 .have hL:oJ f 9221120237041090560 1:=λw=>lN f hf w;cases hk:iJ aF a
  .exact fin _ 1 (.inr (.inr ⟨hf,rfl,rfl⟩)) (LC f aj aF a _ _ 1 _ (HX E hk) hL w)
  .exact fin _ 1 (.inr (.inr ⟨hf,rfl,rfl⟩)) (YX f aj aF a _ _ 1 _ (HX I hk) (λw=>jh f E jl w) hL w)
def aKI{P:Prop}(h:P:=by
 have hh:¬9223372036854775808<=a:=om;unfold gu jg;rw[if_neg (λk=>hh k.2),if_neg (λk=>hh k.2)];exact⟨rfl,om⟩):P:=h
def Et(x y:Int):(x==y)=decide (x=y):=by by_cases h:x=y<;>simp[h]
def aQb(a:Int)(a0:0<=a)(a1:aG a):∃s m:Int,(iJ 0 a=I->s=gu 0 a/\m=((jg 0 a:Nat):Int))/\∀w,QR 353 #[.agg #[.int .i32 (-2147483648),.int .i32 2147483647],Y a] w (.tuple #[J s,Y m,X (iJ 0 a)]):=by
 obtain⟨x,hx⟩:=dK (IntKind.i32.wrap a);have Nq:=hx;rw[IntKind.wrap_i32]at Nq;have hft:iJ 0 a=decide (IntKind.u64.wrap x=a):=by
  unfold iJ;rw[IntKind.wrap_u64,decide_eq_decide];by_cases h:9223372036854775808<=a
  .have e1:gu 0 a=1:=by unfold gu;rw[if_pos ⟨.inl rfl,h⟩]
   have e2:jg 0 a=(18446744073709551616-a).toNat :=by unfold jg;rw[if_pos ⟨.inl rfl,h⟩]
   rw[e1,e2,show fH 0 1=2147483648 by decide];omega
  .have e1:gu 0 a=0:=by unfold gu;rw[if_neg (λk=>h k.2)]
   have e2:jg 0 a=a.toNat:=by unfold jg;rw[if_neg (λk=>h k.2)]
   rw[e1,e2,show fH 0 0=2147483647 by decide];omega
 have hd:=hft;rw[hd];by_cases c:x<0
 .refine⟨1,IntKind.u64.wrap (-a),λh=>?_,λw=>Xn a x _ _ _ hx c rfl (Et _ _) rfl w⟩;have:=of_decide_eq_true h;rw[IntKind.wrap_u64]at this;have hh:9223372036854775808<=a:=om;unfold gu jg;rw[if_pos ⟨.inl rfl,hh⟩,if_pos ⟨.inl rfl,hh⟩,IntKind.wrap_u64];exact⟨rfl,om⟩
 .refine⟨0,a,λh=>?_,λw=>Xm a x _ _ hx om rfl (Et _ _) w⟩;have:=of_decide_eq_true h;rw[IntKind.wrap_u64]at this;exact aKI
def aQa(a:Int)(a0:0<=a)(a1:aG a):∃s m:Int,(iJ 1 a=I->s=gu 1 a/\m=((jg 1 a:Nat):Int))/\∀w,QR 356 #[jI (-9223372036854775808) 9223372036854775807,Y a] w (.tuple #[J s,Y m,X (iJ 1 a)]):=by
 obtain⟨x,hx⟩:=dK (IntKind.i64.wrap a);have Nq:=hx;rw[IntKind.wrap_i64]at Nq;have hft:iJ 1 a=decide (IntKind.u64.wrap x=a):=by
  unfold iJ;rw[IntKind.wrap_u64,decide_eq_decide];by_cases h:9223372036854775808<=a
  .have e1:gu 1 a=1:=by unfold gu;rw[if_pos ⟨.inr rfl,h⟩]
   have e2:jg 1 a=(18446744073709551616-a).toNat :=by unfold jg;rw[if_pos ⟨.inr rfl,h⟩]
   rw[e1,e2,show fH 1 1=9223372036854775808 by decide];omega
  .have e1:gu 1 a=0:=by unfold gu;rw[if_neg (λk=>h k.2)]
   have e2:jg 1 a=a.toNat:=by unfold jg;rw[if_neg (λk=>h k.2)]
   rw[e1,e2,show fH 1 0=9223372036854775807 by decide];omega
 have hd:=hft;rw[hd];by_cases c:x<0
 .refine⟨1,IntKind.u64.wrap (-a),λh=>?_,λw=>Xl a x _ _ _ hx c rfl (Et _ _) rfl w⟩;have hh:9223372036854775808<=a:=om;unfold gu jg;rw[if_pos ⟨.inr rfl,hh⟩,if_pos ⟨.inr rfl,hh⟩,IntKind.wrap_u64];exact⟨rfl,om⟩
 .refine⟨0,a,λh=>?_,λw=>Xk a x _ _ hx om rfl (Et _ _) w⟩;exact aKI
def aP9(a:Int)(a0:0<=a)(a1:aG a):∃s m:Int,(iJ 2 a=I->s=gu 2 a/\m=((jg 2 a:Nat):Int))/\∀w,QR 358 #[.agg #[.int .u32 0,.int .u32 4294967295],Y a] w (.tuple #[J s,Y m,X (iJ 2 a)]):=by
 obtain⟨x,hx⟩:=dK (IntKind.u32.wrap a);have Nq:=hx;rw[IntKind.wrap_u32]at Nq;have hsg:gu 2 a=0:=by unfold gu;rw[if_neg (by omega)]
 have hmg:jg 2 a=a.toNat:=by unfold jg;rw[if_neg (by omega)]
 have hft:iJ 2 a=decide (IntKind.u64.wrap x=a):=by
  unfold iJ;rw[hsg,hmg];rw[IntKind.wrap_u64,decide_eq_decide,show fH 2 0=4294967295 by decide];omega
 rw[hft,hsg,hmg];exact⟨0,a,λ_=>⟨rfl,om⟩,λw=>Xj a x _ _ hx om rfl (Et _ _) w⟩
def aP8(a:Int)(a0:0<=a)(a1:aG a):∃s m:Int,(iJ 3 a=I->s=gu 3 a/\m=((jg 3 a:Nat):Int))/\∀w,QR 360 #[aN 0 18446744073709551615,Y a] w (.tuple #[J s,Y m,X (iJ 3 a)]):=by
 have hsg:gu 3 a=0:=by unfold gu;rw[if_neg (by omega)]
 have hmg:jg 3 a=a.toNat:=by unfold jg;rw[if_neg (by omega)]
 have hft:iJ 3 a=I:=by
  unfold iJ;rw[hsg,hmg];rw[show fH 3 0=18446744073709551615 by decide];exact decide_eq_true om
 rw[hft,hsg,hmg];exact⟨0,a,λ_=>⟨rfl,om⟩,λw=>Xi a a0 (by rw[IntKind.wrap_u64];omega) w⟩
def rF(f aj aF a:Int)(a0:0<=a)(a1:aG a)(w:World)(hw:Fm w):
  CT 92 #[J f,J aj,J aF,Y a] w λe w'=>∃Z fl,gQ f aj aF a Z fl/\e=O (aP Z fl)/\Gr w w':=by
 have fin:∀Z,gQ f aj aF a Z 1->(Jh f aj aF a w Z 1)->CT 92 #[J f,J aj,J aF,Y a] w λe w'=>∃Z fl,gQ f aj aF a Z fl/\e=O (aP Z fl)/\Gr w w':=λZ hp h=>h.mono (λe w' ⟨h1,h2⟩=>⟨Z,1,hp,h1,h2⟩);have kn:∃(kv:Value) (kb:Bool),∀w,QR 186 #[J aF] w (.tuple #[kv,X kb]):=by
  by_cases hk:0<=aF/\aF<=3
  .rcases(om:aF=0\/aF=1\/aF=2\/aF=3)with rfl|rfl|rfl|rfl
   .exact⟨_,_,tH⟩
   .exact⟨_,_,tu⟩
   .exact⟨_,_,tq⟩
   .exact⟨_,_,sZ⟩
  .exact⟨_,_,λw=>zS aF hk w⟩
 obtain⟨kv,kb,HKn⟩:=kn;by_cases hf:f=0\/f=1
 .obtain⟨p,mx,one,aI,sg,nan,hF⟩:=eX f hf;obtain⟨mn,fb,sp,hM,zU,PD⟩:=hF.m;have HN:F8 p mn mx nan 1:=λw=>dh hM w;by_cases hm:0<=aj/\aj<=4
  .obtain⟨k,hk⟩:=kW aj hm.1 hm.2;have HS:Hid (∀w',Gr w w'->rV f aj w' p mn mx k I):=λaT dL=>dV hF hM aj k (λw=>gW aj k hk w) (hw.gr dL);have bad:iJ aF a=E->gQ f aj aF a nan 1:=λh=>.inr (.inl ⟨p,mx,one,aI,sg,nan,hF,.inr h,rfl,rfl⟩);have HR:∀s m,s=gu aF a->m=((jg aF a:Nat):Int)->Hid (∀w,CT 187 #[dN p mn mx aj k,J s,J 0,aN 0 m,X E] w λe w'=>∃z fl,bY p (1-mx) mx one aI sg nan aj (FI aF a) z fl/\e=O (aP z fl)/\Gr w w'):=by
    intro s m hs I_ w;subst hs I_;have fF:=DU aF a a0 a1;rcases Nat.eq_zero_or_pos (jg aF a)with h0|h0
    .have hs0:gu aF a=0:=by
      unfold jg at h0;unfold gu;by_cases c:(aF=0\/aF=1)/\9223372036854775808<=a
      .rw[if_pos c]at h0;exfalso;omega
      .rw[if_neg c]
     rw[h0,hs0];refine(RQ hM aj k 0 0 E om om (sw 0 sg 0) (λw=>mV hM 0 _ (.inl ⟨rfl,by simp[sw]⟩) w) w).mono ?_;rintro e w' ⟨rfl,hg⟩;refine⟨_,_,?_,rfl,hg⟩;unfold FI;rw[if_pos h0];exact .inl ⟨rfl,rfl,rfl⟩
    .have:=zJ hM aj aj k hk (gu aF a) (Vd aF a) 0 om om (jg aF a) h0 om E (λh=>by cases h) w;rw[(om:jg aF a/18446744073709551616=0),(om:jg aF a%18446744073709551616=jg aF a)]at this;refine this.mono ?_;rintro e w' ⟨z,fl,hr,rfl,hg⟩;rw[zU]at hr;refine⟨_,_,?_,rfl,hg⟩;unfold FI;rw[if_neg (by omega)];exact .inr (.inl ⟨rfl,z,hr,by rw[aAV]⟩)
   have ok:iJ aF a=I->(∃s m,(s=gu aF a/\m=((jg aF a:Nat):Int))/\CT 92 #[J f,J aj,J aF,Y a] w λe w'=>∃z fl,bY p (1-mx) mx one aI sg nan aj (FI aF a) z fl/\e=O (aP z fl)/\Gr w w')->CT 92 #[J f,J aj,J aF,Y a] w λe w'=>∃Z fl,gQ f aj aF a Z fl/\e=O (aP Z fl)/\Gr w w':=λhq ⟨s,m,_,h⟩=>h.mono (λe w' ⟨z,fl,h0,h1,h2⟩=>⟨z,fl,.inl ⟨p,mx,one,aI,sg,nan,hF,hm,hq,h0⟩,h1,h2⟩);by_cases Py:0<=aF/\aF<=3
   .rcases(om:aF=0\/aF=1\/aF=2\/aF=3)with rfl|rfl|rfl|rfl
    .obtain⟨s,m,he,HW⟩:=aQb a a0 a1;cases hq:iJ 0 a<;>rw[hq]at HW he
     .exact fin nan (bad hq) (aDG p mn mx aj nan f aj 0 a s m k HS tH HW HN)
     .exact ok hq ⟨s,m,he rfl,aG3 p mn mx aj f aj 0 a s m k HS tH HW _ (HR s m (he rfl).1 (he rfl).2)⟩
    .obtain⟨s,m,he,HW⟩:=aQa a a0 a1;cases hq:iJ 1 a<;>rw[hq]at HW he
     .exact fin nan (bad hq) (aDF p mn mx aj nan f aj 1 a s m k HS tu HW HN)
     .exact ok hq ⟨s,m,he rfl,aG2 p mn mx aj f aj 1 a s m k HS tu HW _ (HR s m (he rfl).1 (he rfl).2)⟩
    .obtain⟨s,m,he,HW⟩:=aP9 a a0 a1;cases hq:iJ 2 a<;>rw[hq]at HW he
     .exact fin nan (bad hq) (aDE p mn mx aj nan f aj 2 a s m k HS tq HW HN)
     .exact ok hq ⟨s,m,he rfl,aG1 p mn mx aj f aj 2 a s m k HS tq HW _ (HR s m (he rfl).1 (he rfl).2)⟩
    .obtain⟨s,m,he,HW⟩:=aP8 a a0 a1;cases hq:iJ 3 a<;>rw[hq]at HW he
     .exact fin nan (bad hq) (aDD p mn mx aj nan f aj 3 a s m k HS sZ HW HN)
     .exact ok hq ⟨s,m,he rfl,aG0 p mn mx aj f aj 3 a s m k HS sZ HW _ (HR s m (he rfl).1 (he rfl).2)⟩
   .exact fin nan (bad (by unfold iJ;exact decide_eq_false (λh=>Py h.1))) (aG4 p mn mx aj nan f aj aF a k HS (λw=>zS aF Py w) HN)
  .exact fin nan (.inr (.inl ⟨p,mx,one,aI,sg,nan,hF,.inl hm,rfl,rfl⟩)) (Xh p mn mx aj nan f aj aF a kv kb (λaT dL=>gJ hF hM aj (λw=>jR aj om w) (hw.gr dL)) HKn HN)
 .exact fin _ (.inr (.inr ⟨hf,rfl,rfl⟩)) (Xh _ _ _ _ _ f aj aF a kv kb (λaT dL=>dP f aj hf (hw.gr dL)) HKn (λw=>dh m64 w))
def TG(f aj aF a:Int)(a0:0<=a)(a1:aG a):
  ∃Z fl:Int,gQ f aj aF a Z fl/\(∀w,QB 60 #[J f,J aj,J aF,Y a] w (aP Z fl))/\
   (∀w,Fm w->Jh f aj aF a w Z fl):=
 Es (λ_ _ _ _ h h'=>gQ.one h h') (TF f aj aF a) (kF f aj aF a a0 a1) (rF f aj aF a a0 a1)
def aLK{one v:Int}(h:bD f p mx one aI sg nan)(hs:s=0\/s=1)(v0:0<=v)(v1:v<=aI):0<=sw s sg v/\sw s sg v<2*sg/\sw s sg v<18446744073709551616:=by
 have hb:=h.bounds;unfold sw;split<;>omega
def aIZ{one:Int}(h:bD f p mx one aI sg nan)(hs:s=0\/s=1){y:dM}(hy:dF p mx one aI sg nan (sw s sg 0) y):y.s=s/\y.e=0/\y.M=0/\y.c=0:=by
 have hb:=h.bounds;obtain⟨y1,y2⟩:=dF.bare h hs om om hy;rcases y2 with⟨_,v',WT,hv'⟩|⟨c,_⟩
 .dsimp only at WT hv';have:v'=0:=om;subst this;rcases hv' with⟨q,c,e,m⟩|⟨_,_,c,_⟩|⟨_,c,_⟩|⟨q,c,e,m⟩|⟨q0,q1,c,_⟩
  .exact⟨y1,e,om,c⟩
  all_goals (exfalso;omega)
 .exfalso;omega
def aFB{one:Int}(a0:0<=a)(a1:aG a)(hF:bD f p mx one aI sg nan){x:dM}(hx:dF p mx one aI sg nan a x)(xc:x.c<=2)(hp:bY p (1-mx) mx one aI sg nan aj (sN aj x) Z 0):
  (0<=Z/\Z<2*sg/\aG Z)/\∃y,dF p mx one aI sg nan Z y/\y.c<=2/\y.s=x.s/\(x.c<=1->y.c<=1/\∀way,bV way y=bV aj x)/\Jo y=0/\∀way,bY p (1-mx) mx one aI sg nan way (sN way y) Z 0:=by
 have hb:=hF.bounds;obtain⟨v1,v2,v3,v4,v5,v6⟩:=bK hF hx;have hs:=v1.jM;have x0:=v1.c0;by_cases hn:x.c=1/\x.e<0
 .obtain⟨c,e⟩:=hn;obtain⟨hl,lF,iR⟩:=pK hF hx aj c e;rcases Nat.eq_zero_or_pos (bV aj x)with h0|h0
  .obtain⟨rfl,_⟩:=bY.one hp (lF h0);have AO:=aLK hF hs (Int.le_refl 0) (om:(0:Int)<=aI);obtain⟨y,hy⟩:=eu hF _ AO.1 AO.2.2;obtain⟨q1,q2,q3,q4⟩:=aIZ hF hs hy;have hny:¬(y.c=1/\y.e<0):=om;refine⟨AO,y,hy,om,q1,λ_=>⟨om,λway=>?_⟩,yL (a:=a) hF hny,λway=>?_⟩
   .rw[sD om,q3,h0,Nat.zero_mul]
   .rw[lH hny];exact ou hF AO.1 hy om way
  .obtain⟨z,hr,hpz⟩:=iR h0;obtain⟨rfl,_⟩:=bY.one hp hpz;obtain⟨z0,z1,hy'⟩:=aAg hF hs h0 om (hr aj);have AO:=aLK hF hs (om:0<=z) (om:z<=aI);obtain⟨y,hy⟩:=eu hF _ AO.1 AO.2.2;obtain⟨q1,q2,q3⟩:=hy' y hy;have hye:=(bK hF hy).2.2.2.1;have hw:=λway=>aD0 (x:=y) om q3 way;refine⟨AO,y,hy,om,q2,λ_=>⟨om,λway=>(hw way).1⟩,?_,λway=>?_⟩
   .unfold Jo;rw[(hw 0).2,if_neg (by simp)]
   .by_cases hny:y.c=1/\y.e<0
    .unfold sN;rw[if_pos hny,(hw way).1,if_neg om,q2];exact .inr (.inl ⟨rfl,z,hr way,rfl⟩)
    .rw[lH hny];exact ou hF AO.1 hy om way
 .rw[lH hn]at hp;obtain⟨rfl,_⟩:=bY.one hp (ou hF a0 hx xc aj);obtain⟨ha,v,_,_,hzz⟩:=xw hF a0 hx xc;refine⟨⟨a0,ha,a1⟩,x,hx,xc,rfl,λhc=>⟨hc,λway=>?_⟩,yL (a:=Z) hF hn,λway=>?_⟩
  .have he:0<=x.e:=by
    rcases(om:x.c=1\/x.c≠1)with k|k
    .omega
    .have:=hzz k;omega
   rw[sD he,sD he]
  .rw[lH hn];exact ou hF a0 hx xc way
