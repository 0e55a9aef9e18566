import Derived.Test.YthoelefkjpjhfaaGreatDoorM0
import Derived.Test.YthoelefkjpjhfaaGreatDoorM7
set_option linter.all false
open Go.Proofs.YthoelefkjpjhfaaGreatDoor renaming vI → J, vU → Y
open Go.Ending renaming returned → O
open Go.Proofs.Tryz
namespace Go.Proofs.YthoelefkjpjhfaaGreatDoor
open Go.RowKit
variable {a fl Z b aj f p mx one aN sg nan s z aG n e mu inv scale t k j x T:Int}{w:ak}{M:Nat}{ex:Bool}
def PN(p mn mx md:Int)(k:Nat)(x y:d_)(hx:VO x)(hy:VO y)(h2:max x.c y.c<3)(w:ak):
  CT 83 #[eu p mn mx md k,iP x.s x.e x.c x.M false 0,iP y.s y.e y.c y.M false 0] w λe w'=>∃os oe oc oh ol ot,rF (kJ md x (zW y)) os oe oc oh ol ot/\e=O (bP os oe oc oh ol ot 0)/\Gr w w':=
 PO p mn mx md k _ _ _ _ _ _ _ _ _ _ _ _ (1-y.s) (by rcases hy.lD with e|e<;>rw[e]<;>decide+kernel) _ (λw=>sum_any p mn mx md k x (zW y) hx hy.turn h2 w) w
def zN(p mn mx md:Int)(k:Nat)(x y:d_)(hx:VO x)(hy:VO y)(w:ak):
  CT 173 #[eu p mn mx md k,.func (.func 83) #[] #[],iP x.s x.e x.c x.M false 0,iP y.s y.e y.c y.M false 0] w λe w'=>∃os oe oc oh ol ot,rF (kJ md x (zW y)) os oe oc oh ol ot/\e=O (bP os oe oc oh ol ot 0)/\Gr w w':=by
 by_cases h:3<=max x.c y.c
 .refine(kS p mn mx md k _ _ _ _ _ _ _ _ _ _ _ _ 83 _ rfl h w).mono ?_;rintro r w' ⟨rfl,hg⟩;have:=hx.c4;have:=hy.c4;rw[qo md x (zW y) h];exact⟨_,_,_,_,_,_,Ya _ h (om:max x.c y.c<=4),rfl,hg⟩
 .exact Ez p mn mx md k _ _ _ _ _ _ _ _ _ _ _ _ _ rfl om _ (λw=>PN p mn mx md k x y hx hy om w) w
def EU(aj:Int)(x y:d_):d_:=kJ aj x (zW y)
def Kz(f aj a b:Int)(a0:0<=a)(a1:aI a)(b0:0<=b)(b1:aI b)(w:ak)(hw:Fm w):
  CT 27 #[J f,J aj,Y a,Y b] w λe w'=>∃Z fl,um EU f aj a b Z fl/\e=O (aU Z fl)/\Gr w w':=by
 refine aBq f aj a b (um EU f aj a b) (λw' hg=>?_);have Bo:=hw.gr hg;by_cases hf:f=0\/f=1
 .obtain⟨p,mx,one,aN,sg,nan,hF⟩:=fQ f hf;obtain⟨mn,fb,sp,hM,Ce,Ru⟩:=hF.m;by_cases hm:0<=aj/\aj<=4
  .obtain⟨k,hk⟩:=mP aj hm.1 hm.2;obtain⟨x,hx,HA⟩:=jP hF hM a a0 a1;obtain⟨y,hy,HB⟩:=jP hF hM b b0 b1;obtain⟨v1,v2,v3,v4,v5,v6⟩:=bU hF hx;obtain⟨u1,u2,u3,u4,u5,u6⟩:=bU hF hy;refine(VN p mn mx aj f k 83 a b _ _ _ _ _ _ _ _ _ _ _ _ (λbf dY=>eX hF hM aj k (λw=>iI aj k hk w) (Bo.gr dY)) HA HB (rF (EU aj x y)) (λw=>zN p mn mx aj k x y v1 u1 w) (cZ p mn mx one aN sg nan aj (EU aj x y)) (λos oe oc oh ol ot w hq=>qB hM aj k hk _ os oe oc oh ol ot hq w)).mono ?_;rintro e bf ⟨Z,fl,hp,rfl,dY⟩;rw[Ce]at hp;exact⟨_,_,.inl ⟨p,mx,one,aN,sg,nan,x,y,hF,hm,hx,hy,hp⟩,rfl,dY⟩
  .refine(lV p mn mx aj nan f aj a b (λbf dY=>iC hF hM aj (λw=>lG aj om w) (Bo.gr dY)) (λw=>dF hM w) 83).mono ?_;rintro e bf ⟨rfl,dY⟩;exact⟨_,_,.inr (.inl ⟨p,mx,one,aN,sg,nan,hF,om,rfl,rfl⟩),rfl,dY⟩
 .refine(lV _ _ _ _ _ f aj a b (λbf dY=>eG f aj hf (Bo.gr dY)) (λw=>dF m64 w) 83).mono ?_;rintro e bf ⟨rfl,dY⟩;exact⟨_,_,.inr (.inr ⟨hf,rfl,rfl⟩),rfl,dY⟩
def aAe(h:bI f p mx one aN sg nan)(b z:Int)(b0:0<=b)(hb:b<2*sg)(hz:b<sg/\z=b+sg\/sg<=b/\z=b-sg){y:d_}(hy:dO p mx one aN sg nan b y):0<=z/\z<2*sg/\dO p mx one aN sg nan z (zW y):=by
 have hbd:=h.bounds;rcases hy with⟨_,v,hs,hc⟩|⟨c,_⟩
 .refine⟨om,om,.inl ⟨om,v,?_,hc⟩⟩;unfold zW;dsimp only
  rcases hs with⟨s0,rfl,s1⟩|⟨s0,rfl,s1⟩
  .rw[s0];exact .inr ⟨om,om,om⟩
  .rw[s0];exact .inl ⟨om,om,om⟩
 .exfalso;omega
def aAl(h:bI f p mx one aN sg nan)(aj a b:Int)(hm:0<=aj/\aj<=4)(a0:0<=a)(a1:aI a)(b0:0<=b)(b1:aI b){x y:d_}(hx:dO p mx one aN sg nan a x)(hy:dO p mx one aN sg nan b y)(w:ak):
  CT 63 #[J f,J aj,Y a,Y b] w λe w'=>∃Z fl,cZ p (1-mx) mx one aN sg nan aj (EU aj x y) Z fl/\e=O (aU Z fl)/\Gb w w':=by
 have hbd:=h.bounds;by_cases uF:a<2*sg/\b<2*sg
 .obtain⟨fa,PI⟩:=uF;obtain⟨z,hz⟩:∃z,b<sg/\z=b+sg\/sg<=b/\z=b-sg:=by
   by_cases c:b<sg
   .exact⟨_,.inl ⟨c,rfl⟩⟩
   .exact⟨_,.inr ⟨om,rfl⟩⟩
  obtain⟨z0,z1,mG⟩:=aAe h b z b0 PI hz hy;exact aJS f aj a b z (λw=>kZ h aj a b hm.1 hm.2 a0 fa b0 PI w) (λw=>FB h b z b0 PI hz w) _ (λw=>NP h aj a z hm a0 a1 z0 om hx mG w) w
 .refine(NR f aj a b (λw=>fK f aj a b a0 a1 b0 b1 (tJ h a1 b1 om) w) nan 1 (λw=>dA h w) w).mono ?_;rintro e w' ⟨rfl,hg⟩;refine⟨_,_,?_,rfl,hg⟩;obtain⟨v1,_⟩:=bU h hx;obtain⟨u1,_⟩:=bU h hy;have xc4:=v1.c4;have yc4:=u1.c4;have:max x.c (zW y).c =4:=by
   show max x.c y.c=4;rcases(om:2*sg<=a\/2*sg<=b)with c|c
   .have:=jM h hx c;subst this;dsimp only at*;omega
   .have:=jM h hy c;subst this;dsimp only at*;omega
  unfold EU;rw[qo aj x (zW y) (by omega)];exact jI this
def Ja(f aj a b:Int)(a0:0<=a)(a1:aI a)(b0:0<=b)(b1:aI b)(w:ak):
  CT 63 #[J f,J aj,Y a,Y b] w λe w'=>∃Z fl,um EU f aj a b Z fl/\e=O (aU Z fl)/\Gb w w':=by
 by_cases hf:f=0\/f=1
 .obtain⟨p,mx,one,aN,sg,nan,hF⟩:=fQ f hf;by_cases hm:0<=aj/\aj<=4
  .obtain⟨x,hx⟩:=fH hF a a0 a1;obtain⟨y,hy⟩:=fH hF b b0 b1;refine(aAl hF aj a b hm a0 a1 b0 b1 hx hy w).mono ?_;rintro e w' ⟨Z,fl,hp,rfl,hg⟩;exact⟨_,_,.inl ⟨p,mx,one,aN,sg,nan,x,y,hF,hm,hx,hy,hp⟩,rfl,hg⟩
  .refine(NR f aj a b (λw=>fK f aj a b a0 a1 b0 b1 (.inl om) w) nan 1 (λw=>dA hF w) w).mono ?_;rintro e w' ⟨rfl,hg⟩;exact⟨_,_,.inr (.inl ⟨p,mx,one,aN,sg,nan,hF,om,rfl,rfl⟩),rfl,hg⟩
 .refine(NR f aj a b (λw=>fK f aj a b a0 a1 b0 b1 (.inr (.inl hf)) w) _ 1 (λw=>nK f hf w) w).mono ?_;rintro e w' ⟨rfl,hg⟩;exact⟨_,_,.inr (.inr ⟨hf,rfl,rfl⟩),rfl,hg⟩
def AV(f aj a b:Int)(a0:0<=a)(a1:aI a)(b0:0<=b)(b1:aI b):
  ∃Z fl:Int,um EU f aj a b Z fl/\(∀w,QB 63 #[J f,J aj,Y a,Y b] w (aU Z fl))/\
   (∀w,Fm w->QR 27 #[J f,J aj,Y a,Y b] w (aU Z fl)):=
 VP EU 63 27 (λaj x y hx hy _ _ _ _ _ _=>aAj aj x (zW y) hx hy.turn) f aj a b a0 a1 b0 b1 (Ja f aj a b a0 a1 b0 b1) (Kz f aj a b a0 a1 b0 b1)
def aQp{b:Bool}(h:bI f p mx one aN sg nan)(hr:bM p (1-mx) mx one aN aj s M e b z fl):0<=z/\z<sg:=by
 have hb:=h.bounds;obtain⟨dh,E,r,r2,hf,h1,h2,h3,h4,h5,h6⟩:=hr;have hov:kN aN aj s=aN\/kN aN aj s=aN-1:=by unfold kN;split<;>simp
 have hE:0<=one*(E-(1-mx)):=Bj om om;rcases h6 with⟨_,rfl,_⟩|⟨_,_,rfl,_⟩|⟨_,h7,rfl,_⟩
 .omega
 .omega
 .generalize one*(E-(1-mx))=Q at*
  omega
def Sl{o:d_}(h:bI f p mx one aN sg nan)(hp:cZ p (1-mx) mx one aN sg nan aj o Z fl):Wd Z:=by
 have hb:=h.bounds;have hsg:2*sg<=18446744073709551616:=by
  rcases h with⟨_,_,_,_,_,rfl,_⟩|⟨_,_,_,_,_,rfl,_⟩<;>omega
 have Dk:∀z,0<=z->z<sg->Wd (sw o.s sg z):=by
  intro z z0 z1;unfold sw Wd;split<;>omega
 rcases hp with⟨_,rfl,_⟩|⟨_,z,hz,rfl⟩|⟨_,rfl,_⟩|⟨_,rfl,_⟩|⟨_,rfl,_⟩
 .exact Dk 0 om om
 .have:=aQp h hz;exact Dk z this.1 this.2
 .exact Dk aN om om
 .unfold Wd;omega
 .unfold Wd;omega
def D9(h:bI f p mx one aN sg nan):Wd nan:=by
 rcases h with⟨_,_,_,_,_,_,rfl⟩|⟨_,_,_,_,_,_,rfl⟩<;>(unfold Wd;omega)
def um.wd{R:Int->d_->d_->d_}(h:um R f aj a b Z fl):Wd Z:=by
 rcases h with⟨p,mx,one,aN,sg,nan,x,y,hF,hm,hx,hy,hp⟩|⟨p,mx,one,aN,sg,nan,hF,hm,rfl,rfl⟩|⟨hF,rfl,rfl⟩
 .exact Sl hF hp
 .exact D9 hF
 .unfold Wd;omega
def pz.wd{R:Int->Int->d_->d_->d_}(h:pz R f aj a b Z fl):Wd Z:=by
 rcases h with⟨p,mx,one,aN,sg,nan,x,y,hF,hm,hx,hy,hp⟩|⟨p,mx,one,aN,sg,nan,hF,hm,rfl,rfl⟩|⟨hF,rfl,rfl⟩
 .rcases hp with hp|⟨_,rfl,_⟩
  .exact Sl hF hp
  .have hb:=hF.bounds;rcases hF with⟨_,_,_,_,rfl,rfl,_⟩|⟨_,_,_,_,rfl,rfl,_⟩<;>(unfold Wd sw;split<;>omega)
 .exact D9 hF
 .unfold Wd;omega
def iE.wd(h:iE f aj aG a Z fl):Wd Z:=by
 rcases h with⟨p,mx,one,aN,sg,nan,hF,hm,hk,hp⟩|⟨p,mx,one,aN,sg,nan,hF,hm,rfl,rfl⟩|⟨hF,rfl,rfl⟩
 .exact Sl hF hp
 .exact D9 hF
 .unfold Wd;omega
def f64:bI 1 53 1023 4503599627370496 9218868437227405312 9223372036854775808 9221120237041090560:=.inr ⟨rfl,rfl,rfl,rfl,rfl,rfl,rfl⟩
def PE(n:Nat)(h0:0<n)(h1:n<1000)(z:Int)(hz:bM 53 (1-1023) 1023 4503599627370496 9218868437227405312 0 0 n 0 false z 0):iE 1 0 1 (n:Int) z 0:=by
 have hs:g_ 1 (n:Int)=0:=by unfold g_;rw[aH (by omega)]
 have hM:jQ 1 (n:Int)=n:=by unfold jQ;rw[aH (by omega)];omega
 refine .inl ⟨53,1023,4503599627370496,9218868437227405312,9223372036854775808,9221120237041090560,f64,⟨om,om⟩,?_,?_⟩
 .unfold jk;rw[hs,hM,show gu 1 0=9223372036854775807 by decide];exact h_ om
 .unfold Il;rw[hs,hM,aH (by omega)];exact .inr (.inl ⟨rfl,z,hz,rfl⟩)
def aOq:iE 1 0 1 1 4607182418800017408 0:=PE 1 de de _ ⟨0,0,4503599627370496,4503599627370496,0,de,.inr ⟨de,rfl⟩,de,de,de,.inr (.inr ⟨de,de,de,.inl ⟨rfl,rfl⟩⟩)⟩
def aNP:iE 1 0 1 2 4611686018427387904 0:=PE 2 de de _ ⟨1,1,4503599627370496,4503599627370496,0,de,.inr ⟨de,rfl⟩,de,de,de,.inr (.inr ⟨de,de,de,.inl ⟨rfl,rfl⟩⟩)⟩
def aKW:pz divO 1 0 4607182418800017408 4611686018427387904 4602678819172646912 0:=by
 refine .inl ⟨53,1023,4503599627370496,9218868437227405312,9223372036854775808,9221120237041090560,⟨1,0,-52,4503599627370496⟩,⟨1,0,-51,4503599627370496⟩,f64,⟨om,om⟩,?_,?_,.inl ?_⟩
 .exact .inl ⟨de,4607182418800017408,.inl ⟨rfl,rfl,de⟩,.inr (.inr (.inr (.inr ⟨de,de,rfl,0,4503599627370496,-52,.inr ⟨de,de,de⟩,de,de,de,de⟩)))⟩
 .exact .inl ⟨de,4611686018427387904,.inl ⟨rfl,rfl,de⟩,.inr (.inr (.inr (.inr ⟨de,de,rfl,0,4503599627370496,-51,.inr ⟨de,de,de⟩,de,de,de,de⟩)))⟩
 .have e:divO 53 0 ⟨1,0,-52,4503599627370496⟩ ⟨1,0,-51,4503599627370496⟩=⟨1,0,-59,288230376151711744⟩:=by
   unfold divO;rw[aH de,aH de,aH de,aH de,aQ (by decide)];rfl
  rw[e];exact .inr (.inl ⟨rfl,4602678819172646912,⟨-1,-1,4503599627370496,4503599627370496,0,de,.inr ⟨de,rfl⟩,de,de,de,.inr (.inr ⟨de,de,de,.inl ⟨rfl,rfl⟩⟩)⟩,rfl⟩)
section
variable [Inhabited Ch]
def aFx(a b:Int):Int:=pick (um kJ 1 0 a b)
def aFu(a b:Int):Int:=pick (um EU 1 0 a b)
def aFv(a b:Int):Int:=pick (um xW 1 0 a b)
def aDe(a b:Int):Int:=pick (pz divO 1 0 a b)
def Wq(a:Int):Int:=pick (pz qV 1 0 a a)
def TY(h:um kJ 1 0 a b Z fl):aFx a b=Z:=mQ um.one h
def TV(h:um EU 1 0 a b Z fl):aFu a b=Z:=mQ um.one h
def TW(h:um xW 1 0 a b Z fl):aFv a b=Z:=mQ um.one h
def Me(h:pz divO 1 0 a b Z fl):aDe a b=Z:=mQ pz.one h
def M_(h:pz qV 1 0 a a Z fl):Wq a=Z:=mQ pz.one h
def aFw(n:Int):Int:=pick (iE 1 0 1 (n%18446744073709551616))
def ER(h:iE 1 0 1 (n%18446744073709551616) Z fl):aFw n=Z:=mQ iE.one h
def XV:Ops:=⟨aFw,aFx,aFu,aFv,aDe,Wq⟩
def aCx:XV.In where
 int n:=by obtain⟨Z,fl,h⟩:=Vz 1 0 1 (n%18446744073709551616);show Wd (aFw n);rw[ER h];exact h.wd
 add ha hb:=by obtain⟨Z,fl,h,h1,h2⟩:=add_same 1 0 _ _ ha.1 ha.2 hb.1 hb.2;show Wd (aFx _ _);rw[TY h];exact h.wd
 sub ha hb:=by obtain⟨Z,fl,h,h1,h2⟩:=AV 1 0 _ _ ha.1 ha.2 hb.1 hb.2;show Wd (aFu _ _);rw[TV h];exact h.wd
 mul ha hb:=by obtain⟨Z,fl,h,h1,h2⟩:=Bd 1 0 _ _ ha.1 ha.2 hb.1 hb.2;show Wd (aFv _ _);rw[TW h];exact h.wd
 div ha hb:=by obtain⟨Z,fl,h,h1,h2⟩:=FV 1 0 _ _ ha.1 ha.2 hb.1 hb.2;show Wd (aDe _ _);rw[Me h];exact h.wd
 sqrt ha:=by obtain⟨Z,fl,h,h1,h2⟩:=BN 1 0 _ ha.1 ha.2;show Wd (Wq _);rw[M_ h];exact h.wd
def aOn:XV.S where
 one:=ER (n:=1) aOq
 half:=by
  have h2:aFw 2=4611686018427387904:=ER (n:=2) aNP;show aDe _ (aFw 2)=_;rw[h2];exact Me aKW
 int n u n0 n1 hu:=by
  subst hu;intro w;have h0:0<=n%18446744073709551616:=Int.emod_nonneg _ om;have h1:n%18446744073709551616<18446744073709551616:=Int.emod_lt_of_pos _ om;refine(lX 1 0 1 (n%18446744073709551616) h0 h1 w).mono ?_;rintro e w' ⟨Z,fl,hp,he,hg⟩;exact⟨fl,by rw[show XV.int n=Z from ER hp];exact he,hg⟩
 add ha hb:=by obtain⟨Z,fl,h,h1,h2⟩:=add_same 1 0 _ _ ha.1 ha.2 hb.1 hb.2;intro w;show Calls _ _ _ _ (λe w'=>∃fl,e=O (.agg #[Y (aFx _ _),_])/\_);rw[TY h];exact(h1 w).mono λe w' h=>⟨fl,h⟩
 sub ha hb:=by obtain⟨Z,fl,h,h1,h2⟩:=AV 1 0 _ _ ha.1 ha.2 hb.1 hb.2;intro w;show Calls _ _ _ _ (λe w'=>∃fl,e=O (.agg #[Y (aFu _ _),_])/\_);rw[TV h];exact(h1 w).mono λe w' h=>⟨fl,h⟩
 mul ha hb:=by obtain⟨Z,fl,h,h1,h2⟩:=Bd 1 0 _ _ ha.1 ha.2 hb.1 hb.2;intro w;show Calls _ _ _ _ (λe w'=>∃fl,e=O (.agg #[Y (aFv _ _),_])/\_);rw[TW h];exact(h1 w).mono λe w' h=>⟨fl,h⟩
 div ha hb:=by obtain⟨Z,fl,h,h1,h2⟩:=FV 1 0 _ _ ha.1 ha.2 hb.1 hb.2;intro w;show Calls _ _ _ _ (λe w'=>∃fl,e=O (.agg #[Y (aDe _ _),_])/\_);rw[Me h];exact(h1 w).mono λe w' h=>⟨fl,h⟩
 sqrt ha:=by obtain⟨Z,fl,h,h1,h2⟩:=BN 1 0 _ ha.1 ha.2;intro w;show Calls _ _ _ _ (λe w'=>∃fl,e=O (.agg #[Y (Wq _),_])/\_);rw[M_ h];exact(h1 w).mono λe w' h=>⟨fl,h⟩
def aOo:XV.I where
 add ha hb:=by obtain⟨Z,fl,h,h1,h2⟩:=add_same 1 0 _ _ ha.1 ha.2 hb.1 hb.2;intro w hw;show Calls _ _ _ _ (λe w'=>∃fl,e=O (.agg #[Y (aFx _ _),_])/\_);rw[TY h];exact(h2 w hw).mono λe w' h=>⟨fl,h⟩
 sub ha hb:=by obtain⟨Z,fl,h,h1,h2⟩:=AV 1 0 _ _ ha.1 ha.2 hb.1 hb.2;intro w hw;show Calls _ _ _ _ (λe w'=>∃fl,e=O (.agg #[Y (aFu _ _),_])/\_);rw[TV h];exact(h2 w hw).mono λe w' h=>⟨fl,h⟩
 mul ha hb:=by obtain⟨Z,fl,h,h1,h2⟩:=Bd 1 0 _ _ ha.1 ha.2 hb.1 hb.2;intro w hw;show Calls _ _ _ _ (λe w'=>∃fl,e=O (.agg #[Y (aFv _ _),_])/\_);rw[TW h];exact(h2 w hw).mono λe w' h=>⟨fl,h⟩
 div ha hb:=by obtain⟨Z,fl,h,h1,h2⟩:=FV 1 0 _ _ ha.1 ha.2 hb.1 hb.2;intro w hw;show Calls _ _ _ _ (λe w'=>∃fl,e=O (.agg #[Y (aDe _ _),_])/\_);rw[Me h];exact(h2 w hw).mono λe w' h=>⟨fl,h⟩
 sqrt ha:=by obtain⟨Z,fl,h,h1,h2⟩:=BN 1 0 _ ha.1 ha.2;intro w hw;show Calls _ _ _ _ (λe w'=>∃fl,e=O (.agg #[Y (Wq _),_])/\_);rw[M_ h];exact(h2 w hw).mono λe w' h=>⟨fl,h⟩
end
def FT:bI 1 53 1023 4503599627370496 9218868437227405312 9223372036854775808 9221120237041090560:=.inr ⟨rfl,rfl,rfl,rfl,rfl,rfl,rfl⟩
def fmt7(h:bI 1 p mx one aN sg nan):p=53/\mx=1023/\one=4503599627370496/\aN=9218868437227405312/\sg=9223372036854775808/\nan=9221120237041090560:=h.one FT
abbrev aLD(a:Int)(x:d_):Prop:=dO 53 1023 4503599627370496 9218868437227405312 9223372036854775808 9221120237041090560 a x
abbrev aNG(aj:Int)(x:d_)(Z fl:Int):Prop:=cZ 53 (1-1023) 1023 4503599627370496 9218868437227405312 9223372036854775808 9221120237041090560 aj x Z fl
def aGV{b:Bool}(hr:bM 53 (1-1023) 1023 4503599627370496 9218868437227405312 aj s M e b z fl):0<=z/\z<=9218868437227405312:=by
 obtain⟨dh,E,r,r2,hf,h1,h2,h3,h4,h5,h6⟩:=hr;have hov:kN 9218868437227405312 aj s=9218868437227405312\/kN 9218868437227405312 aj s=9218868437227405312-1:=by unfold kN;split<;>simp
 rcases h6 with⟨_,rfl,_⟩|⟨_,_,rfl,_⟩|⟨_,h7,rfl,_⟩<;>omega
def Hu{o:d_}(h:aNG aj o Z fl):Wo Z/\(9223372036854775808<=Z->Z%9223372036854775808<=9218868437227405312)/\(o.s=1->o.c<=2->9223372036854775808<=Z):=by
 have Dk:∀z,0<=z->z<=9218868437227405312->Wo (sw o.s 9223372036854775808 z)/\(9223372036854775808<=sw o.s 9223372036854775808 z->sw o.s 9223372036854775808 z%9223372036854775808<=9218868437227405312)/\(o.s=1->o.c<=2->9223372036854775808<=sw o.s 9223372036854775808 z):=by
  intro z z0 z1;unfold sw Wo;split<;>omega
 rcases h with⟨_,rfl,_⟩|⟨_,z,hz,rfl⟩|⟨_,rfl,_⟩|⟨c,rfl,_⟩|⟨c,rfl,_⟩
 .exact Dk 0 om om
 .have:=aGV hz;exact Dk z this.1 this.2
 .exact Dk _ om om
 .exact⟨Wo.c _,om,om⟩
 .exact⟨Wo.c _,om,om⟩
section
variable [Inhabited Ch]
def o7:O7:=⟨λn=>pick (iE 1 0 1 (n%18446744073709551616)),λa b=>pick (um EU 1 0 a b),λa b=>pick (um xW 1 0 a b),λa=>pick (nU 1 4 a false),λa=>pick (gU 1 2 3 a),λa=>pick (gU 1 0 1 a)⟩
def aCy{R:Int->d_->d_->d_}(h:um R 1 0 a b Z fl):∃x y,aLD a x/\aLD b y/\aNG 0 (R 0 x y) Z fl:=by
 rcases h with⟨p,mx,one,aN,sg,nan,x,y,hF,hm,hx,hy,hp⟩|⟨p,mx,one,aN,sg,nan,hF,hm,rfl,rfl⟩|⟨hF,_⟩
 .obtain⟨rfl,rfl,rfl,rfl,rfl,rfl⟩:=fmt7 hF;exact⟨x,y,hx,hy,hp⟩
 .omega
 .omega
def aGl(ha:Wo a)(hb:Wo b):∃Z fl,um EU 1 0 a b Z fl:=by obtain⟨Z,fl,h,_⟩:=AV 1 0 a b ha.1 ha.2 hb.1 hb.2;exact⟨Z,fl,h⟩
def aHz(ha:Wo a)(hb:Wo b):∃Z fl,um xW 1 0 a b Z fl:=by obtain⟨Z,fl,h,_⟩:=Bd 1 0 a b ha.1 ha.2 hb.1 hb.2;exact⟨Z,fl,h⟩
def yB(s:Int)(M:Nat)(h:aI M):Wo (mO s M):=by unfold mO Wo;split<;>omega
def ML(aG s:Int):gu aG s<18446744073709551616:=by unfold gu;(repeat' split)<;>omega
def aCg(h:gU 1 aj aG a Z fl):Wo Z:=by
 rcases h with⟨p,mx,one,aN,sg,nan,x,hF,ha,hm,hk,hx,hp⟩|⟨_,rfl,_⟩
 .have hm:=ML aG x.s;rcases hp with⟨_,rfl,_⟩|⟨_,c,rfl,_⟩|⟨_,_,rfl,_⟩
  .exact yB _ _ (ML aG 0)
  .exact yB _ _ om
  .exact yB _ _ hm
 .exact Wo.c 0
def aN5(h:nU 1 aj a ex Z fl):Wo Z:=by
 rcases h with⟨p,mx,one,aN,sg,nan,x,hF,hm,hx,hp⟩|⟨p,mx,one,aN,sg,nan,hF,hm,rfl,rfl⟩|⟨_,rfl,_⟩
 .obtain⟨rfl,rfl,rfl,rfl,rfl,rfl⟩:=fmt7 hF;rcases hp with⟨_,rfl,_⟩|⟨_,hp,_⟩
  .exact Wo.c _
  .exact(Hu hp).1
 .obtain⟨rfl,rfl,rfl,rfl,rfl,rfl⟩:=fmt7 hF;exact Wo.c _
 .exact Wo.c _
def aPc(h:iE 1 aj aG a Z fl):Wo Z:=by
 rcases h with⟨p,mx,one,aN,sg,nan,hF,hm,hk,hp⟩|⟨p,mx,one,aN,sg,nan,hF,hm,rfl,rfl⟩|⟨_,rfl,_⟩
 .obtain⟨rfl,rfl,rfl,rfl,rfl,rfl⟩:=fmt7 hF;exact(Hu hp).1
 .obtain⟨rfl,rfl,rfl,rfl,rfl,rfl⟩:=fmt7 hF;exact Wo.c _
 .exact Wo.c _
def UW(h:um EU 1 0 a b Z fl):o7.sub a b=Z:=mQ um.one h
def H_(h:um xW 1 0 a b Z fl):o7.mul a b=Z:=mQ um.one h
def A_(h:iE 1 0 1 (n%18446744073709551616) Z fl):o7.int n=Z:=mQ iE.one h
def MF(h:nU 1 4 a false Z fl):o7.lN a=Z:=mQ nU.one h
def UY(h:gU 1 2 3 a Z fl):o7.fix a=Z:=mQ gU.one h
def Ov(h:gU 1 0 1 a Z fl):o7.whole a=Z:=mQ gU.one h
def Sv:o7.In where
 int n:=by obtain⟨Z,fl,h⟩:=Vz 1 0 1 (n%18446744073709551616);rw[A_ h];exact aPc h
 sub ha hb:=by obtain⟨Z,fl,h⟩:=aGl ha hb;obtain⟨x,y,_,_,hp⟩:=aCy h;rw[UW h];exact(Hu hp).1
 aQh ha hb:=by obtain⟨Z,fl,h⟩:=aGl ha hb;obtain⟨x,y,_,_,hp⟩:=aCy h;rw[UW h];exact(Hu hp).2.1
 mul ha hb:=by obtain⟨Z,fl,h⟩:=aHz ha hb;obtain⟨x,y,_,_,hp⟩:=aCy h;rw[H_ h];exact(Hu hp).1
 lN ha:=by obtain⟨Z,fl,h⟩:=UE 1 4 _ false ha.1 ha.2;rw[MF h];exact aN5 h
 fix ha:=by obtain⟨Z,fl,h⟩:=ES 1 2 3 _ ha.1 ha.2;rw[UY h];exact aCg h
 whole ha:=by obtain⟨Z,fl,h⟩:=ES 1 0 1 _ ha.1 ha.2;rw[Ov h];exact aCg h
def BP(s k:Int)(hs:s=0\/s=1)(k0:-1022<=k)(k1:k<=1023):aLD (sw s 9223372036854775808 (4503599627370496*(k+1023))) ⟨1,s,k-52,4503599627370496⟩:=by
 refine .inl ⟨by unfold sw;split<;>omega,4503599627370496*(k+1023),?_,.inr (.inr (.inr (.inr ⟨om,om,rfl,0,4503599627370496,k-52,.inr ⟨om,om,om⟩,by dsimp only;decide,by dsimp only;omega,by dsimp only;decide,by dsimp only;decide⟩)))⟩;rcases hs with rfl|rfl
 .exact .inl ⟨rfl,by unfold sw;rw[aH (by decide)],by unfold sw;rw[aH (by decide)];omega⟩
 .exact .inr ⟨rfl,by unfold sw;rw[aQ rfl];omega,by unfold sw;rw[aQ rfl];omega⟩
def Ig(hs:s=0\/s=1)(ht:t=0\/t=1)(k0:-1022<=k)(k1:k<=1023)(j0:-1022<=j)(j1:j<=1023)(ha:a=sw s 9223372036854775808 (4503599627370496*(k+1023)))(hb:b=sw t 9223372036854775808 (4503599627370496*(j+1023)))
  (hr:bM 53 (1-1023) 1023 4503599627370496 9218868437227405312 0 (mulS s t) 20282409603651670423947251286016 (k-52+(j-52)) false z 0):o7.mul a b=sw (mulS s t) 9223372036854775808 z:=by
 refine H_ (fl:=0) (.inl ⟨53,1023,4503599627370496,9218868437227405312,9223372036854775808,9221120237041090560,⟨1,s,k-52,4503599627370496⟩,⟨1,t,j-52,4503599627370496⟩,FT,⟨de,de⟩,ha▸BP s k hs k0 k1,hb▸BP t j ht j0 j1,?_⟩);have e:xW 0 ⟨1,s,k-52,4503599627370496⟩ ⟨1,t,j-52,4503599627370496⟩=⟨1,mulS s t,k-52+(j-52),20282409603651670423947251286016⟩:=by
  unfold xW dn;dsimp only
  rw[aH de,aH de,aH de,aH (by decide)]
 rw[e];exact .inr (.inl ⟨rfl,z,hr,rfl⟩)
def CB(hk:jk aG n=true)(hM:jQ aG n=M)(hs:g_ aG n=s)(h0:M≠0)(hr:bM 53 (1-1023) 1023 4503599627370496 9218868437227405312 0 s M 0 false z 0):iE 1 0 aG n (sw s 9223372036854775808 z) 0:=by
 refine .inl ⟨53,1023,4503599627370496,9218868437227405312,9223372036854775808,9221120237041090560,FT,⟨de,de⟩,hk,?_⟩;have hi:Il aG n=⟨1,s,0,M⟩:=by unfold Il;rw[hM,hs,aH h0]
 rw[hi];exact .inr (.inl ⟨rfl,z,hr,rfl⟩)
def aTo:o7.int (-2199023255552)=14015202040376983552:=A_ (n:=-2199023255552) (CB (M:=2199023255552) (s:=1) (z:=4791830003522207744) de de de de ⟨41,41,4503599627370496,4503599627370496,0,de,.inr ⟨de,rfl⟩,de,de,de,.inr (.inr ⟨de,de,de,.inl ⟨rfl,rfl⟩⟩)⟩)
def i41:o7.int (2199023255552)=4791830003522207744:=A_ (n:=2199023255552) (CB (M:=2199023255552) (s:=0) (z:=4791830003522207744) de de de de ⟨41,41,4503599627370496,4503599627370496,0,de,.inr ⟨de,rfl⟩,de,de,de,.inr (.inr ⟨de,de,de,.inl ⟨rfl,rfl⟩⟩)⟩)
def i1:o7.int (1)=4607182418800017408:=A_ (n:=1) (CB (M:=1) (s:=0) (z:=4607182418800017408) de de de de ⟨0,0,4503599627370496,4503599627370496,0,de,.inr ⟨de,rfl⟩,de,de,de,.inr (.inr ⟨de,de,de,.inl ⟨rfl,rfl⟩⟩)⟩)
def i2:o7.int (2)=4611686018427387904:=A_ (n:=2) (CB (M:=2) (s:=0) (z:=4611686018427387904) de de de de ⟨1,1,4503599627370496,4503599627370496,0,de,.inr ⟨de,rfl⟩,de,de,de,.inr (.inr ⟨de,de,de,.inl ⟨rfl,rfl⟩⟩)⟩)
def i0:o7.int 0=0:=A_ (n:=0) (fl:=0) (.inl ⟨53,1023,4503599627370496,9218868437227405312,9223372036854775808,9221120237041090560,FT,⟨de,de⟩,de,.inl ⟨rfl,rfl,rfl⟩⟩)
def f32:iE 1 0 3 4294967296 c32 0:=CB (M:=4294967296) (s:=0) de de de de ⟨32,32,4503599627370496,4503599627370496,0,de,.inr ⟨de,rfl⟩,de,de,de,.inr (.inr ⟨de,de,de,.inl ⟨rfl,rfl⟩⟩)⟩
def f63:iE 1 0 3 9223372036854775808 c63 0:=CB (M:=9223372036854775808) (s:=0) de de de de ⟨63,63,4503599627370496,4503599627370496,0,de,.inr ⟨de,rfl⟩,de,de,de,.inr (.inr ⟨de,de,de,.inl ⟨rfl,rfl⟩⟩)⟩
def aTl:o7.mul 14015202040376983552 yu=14010698440749613056:=Ig (s:=1) (t:=0) (k:=41) (j:=-1) (z:=4787326403894837248) de de de de de de de de ⟨40,40,4503599627370496,4503599627370496,0,de,.inr ⟨de,rfl⟩,de,de,de,.inr (.inr ⟨de,de,de,.inl ⟨rfl,rfl⟩⟩)⟩
def m41:o7.mul 4791830003522207744 yu=4787326403894837248:=Ig (s:=0) (t:=0) (k:=41) (j:=-1) (z:=4787326403894837248) de de de de de de de de ⟨40,40,4503599627370496,4503599627370496,0,de,.inr ⟨de,rfl⟩,de,de,de,.inr (.inr ⟨de,de,de,.inl ⟨rfl,rfl⟩⟩)⟩
def m1:o7.mul 4607182418800017408 yu=4602678819172646912:=Ig (s:=0) (t:=0) (k:=0) (j:=-1) (z:=4602678819172646912) de de de de de de de de ⟨-1,-1,4503599627370496,4503599627370496,0,de,.inr ⟨de,rfl⟩,de,de,de,.inr (.inr ⟨de,de,de,.inl ⟨rfl,rfl⟩⟩)⟩
def m2:o7.mul 4611686018427387904 yu=4607182418800017408:=Ig (s:=0) (t:=0) (k:=1) (j:=-1) (z:=4607182418800017408) de de de de de de de de ⟨0,0,4503599627370496,4503599627370496,0,de,.inr ⟨de,rfl⟩,de,de,de,.inr (.inr ⟨de,de,de,.inl ⟨rfl,rfl⟩⟩)⟩
def mh:o7.mul 4602678819172646912 yu=4598175219545276416:=Ig (s:=0) (t:=0) (k:=-1) (j:=-1) (z:=4598175219545276416) de de de de de de de de ⟨-2,-2,4503599627370496,4503599627370496,0,de,.inr ⟨de,rfl⟩,de,de,de,.inr (.inr ⟨de,de,de,.inl ⟨rfl,rfl⟩⟩)⟩
def mq:o7.mul 4598175219545276416 yu=4593671619917905920:=Ig (s:=0) (t:=0) (k:=-2) (j:=-1) (z:=4593671619917905920) de de de de de de de de ⟨-3,-3,4503599627370496,4503599627370496,0,de,.inr ⟨de,rfl⟩,de,de,de,.inr (.inr ⟨de,de,de,.inl ⟨rfl,rfl⟩⟩)⟩
def m0:o7.mul 0 yu=0:=by
 refine H_ (fl:=0) (.inl ⟨53,1023,4503599627370496,9218868437227405312,9223372036854775808,9221120237041090560,⟨0,0,0,0⟩,⟨1,0,-1-52,4503599627370496⟩,FT,⟨de,de⟩,.inl ⟨de,0,.inl ⟨rfl,rfl,de⟩,.inl ⟨rfl,rfl,rfl,rfl⟩⟩,(show sw 0 9223372036854775808 (4503599627370496*(-1+1023))=yu by decide)▸BP 0 (-1) de de de,?_⟩);exact .inl ⟨rfl,rfl,rfl⟩
def aQ3(hx:Wo x)(h0:9223372036854775808<=x)(h1:x%9223372036854775808<=9218868437227405312):o7.fix (o7.mul x c32)=0:=by
 have aCz:∀{a:Int} {y:d_},9223372036854775808<=a->a%9223372036854775808<=9218868437227405312->aI a->aLD a y->y.s=1/\y.c<=2:=by
  intro a y a0 a1 a2 hy;rcases hy with⟨_,v,hs,hv⟩|⟨c,_⟩
  .rcases hs with⟨_,_,c⟩|⟨hs,rfl,_⟩
   .omega
   .refine⟨hs,?_⟩;rcases hv with⟨_,c,_⟩|⟨c,_⟩|⟨c,_⟩|⟨_,c,_⟩|⟨_,_,c,_⟩<;>omega
  .omega
 obtain⟨Z,fl,h⟩:=aHz hx (Wo.c c32);rw[H_ h];obtain⟨u,v,hu,hv,hp⟩:=aCy h;obtain rfl:=hv.one FT (BP 0 32 de de de);obtain⟨us,uc⟩:=aCz h0 h1 hx.2 hu;have u0:=(bU FT hu).1.c0;obtain⟨p1,p2,p3⟩:=Hu hp;have hpo:(xW 0 u ⟨1,0,32-52,4503599627370496⟩).s =1/\(xW 0 u ⟨1,0,32-52,4503599627370496⟩).c <=2:=by
  unfold xW dn;have hm:mulS u.s 0=1:=by rw[us];decide
  dsimp only
  rw[aH om,aH om,hm]
  (repeat' split)<;>exact⟨rfl,by dsimp only;omega⟩
 have hZ:=p3 hpo.1 hpo.2;obtain⟨T,f,hT⟩:=ES 1 2 3 Z p1.1 p1.2;rw[UY hT];rcases hT with⟨p,mx,one,aN,sg,nan,y,hF,fJ,hm,hk,hy,ho⟩|⟨_,rfl,_⟩
 .obtain⟨rfl,rfl,rfl,rfl,rfl,rfl⟩:=fmt7 hF;obtain⟨ys,yc⟩:=aCz hZ (p2 hZ) p1.2 hy;have hmk:gu 3 y.s=0:=by rw[ys];decide
  have hw:∀M:Nat,M=0->mO y.s M=0:=by intro M hM;subst hM;unfold mO;simp
  rcases ho with⟨c,_⟩|⟨_,c,rfl,_⟩|⟨_,_,rfl,_⟩
  .omega
  .exact hw _ om
  .exact hw _ hmk
 .rfl
def aJs(ha:Wo a)(h0:a%9223372036854775808<=4787326403894837248)(h:gU 1 2 1 (o7.lN a) T fl):o7.whole (o7.lN a)=T:=by
 obtain⟨Z,f1,hZ⟩:=UE 1 4 a false ha.1 ha.2;rw[MF hZ]at h⊢
 rcases hZ with⟨p,mx,one,aN,sg,nan,x,hF,hm,hx,hp⟩|⟨p,mx,one,aN,sg,nan,hF,hm,_⟩|⟨c,_⟩
 .obtain⟨rfl,rfl,rfl,rfl,rfl,rfl⟩:=fmt7 hF;have xc:x.c<=1:=by
   rcases hx with⟨_,v,hs,hv⟩|⟨c,_⟩
   .have hvl:v<=4787326403894837248:=by rcases hs with⟨_,rfl,_⟩|⟨_,rfl,_⟩<;>have:=ha.1<;>have:=ha.2<;>omega
    rcases hv with⟨_,c,_⟩|⟨c,_⟩|⟨c,_⟩|⟨c,_⟩|⟨_,_,c,_⟩<;>omega
   .have:=ha.2;omega
  rcases hp with⟨c,_⟩|⟨_,hp,_⟩
  .omega
  obtain⟨⟨z0,z1,z2⟩,y,hy,yc,ys,hw,_⟩:=aG1 ha.1 ha.2 FT hx om hp;have Bo:=(hw xc).2;rcases h with⟨p,mx,one,aN,sg,nan,y',oC,fJ,KD,hk,ZI,ho⟩|⟨c,_⟩
  .obtain⟨rfl,rfl,rfl,rfl,rfl,rfl⟩:=fmt7 oC;obtain rfl:=hy.one FT ZI;refine Ov (fl:=fl) (.inl ⟨_,_,_,_,_,_,y,FT,fJ,⟨de,de⟩,hk,hy,?_⟩);unfold yj at ho⊢
   rw[Bo 2]at ho;rw[Bo 0];exact ho
  .unfold ZA at c;omega
 .omega
 .omega
end
set_option maxRecDepth 1000000
def aMg{P:Prop}(h:P:=by
 rcases hv with⟨_,c,_⟩|⟨_,_,c,_⟩|⟨_,c,_⟩|⟨_,c,_⟩|⟨_,_,c,_⟩<;>omega):P:=h
section
variable [Inhabited Ch]
def TT(n:Int)(n0:-9223372036854775808<=n)(n1:n<=9223372036854775807)(w:ak):
  QB 111 #[J n] w (Y (o7.int n)):=by
 have hf:=vN;have hw:IntKind.u64.wrap n=n%18446744073709551616:=iT n;have HA:Hid (∀w,CT 60 #[J 1,J 0,J 1,Y (n%18446744073709551616)] w λe w'=>∃fl:Int,e=O (aU (o7.int n) fl)/\Gb w w'):=λw=>(lX 1 0 1 _ (Int.emod_nonneg _ de) (Int.emod_lt_of_pos _ de) w).mono λe w' ⟨Z,fl,hp,he,hg⟩=>⟨fl,by rw[A_ hp];exact he,hg⟩;generalize o7.int n=z at*
 generalize n%18446744073709551616=u at*
 go_enter func111,ntmps111;go_wp2_with (go_at_call 60;refine(HA _).mono ?_;rintro e w1 ⟨fl,rfl,au⟩);go_returns;exact⟨rfl,kg⟩
def aKw(ha:Wo a)(hb:Wo b)(w:ak):
  QB 127 #[Y a,Y b] w (Y (o7.sub a b)):=by
 have hf:=vN;have HA:Hid (∀w,CT 63 #[J 1,J 0,Y a,Y b] w λe w'=>∃fl:Int,e=O (aU (o7.sub a b) fl)/\Gb w w'):=λw=>(Ja 1 0 a b ha.1 ha.2 hb.1 hb.2 w).mono λe w' ⟨Z,fl,hp,he,hg⟩=>⟨fl,by rw[UW hp];exact he,hg⟩;generalize o7.sub a b=z at*
 clear ha hb;go_enter func127,ntmps127;go_wp2_with (go_at_call 63;refine(HA _).mono ?_;rintro e w1 ⟨fl,rfl,au⟩);go_returns;exact⟨rfl,kg⟩
def aCi(ha:Wo a)(hb:Wo b)(w:ak):
  QB 112 #[Y a,Y b] w (Y (o7.mul a b)):=by
 have hf:=vN;have HA:Hid (∀w,CT 64 #[J 1,J 0,Y a,Y b] w λe w'=>∃fl:Int,e=O (aU (o7.mul a b) fl)/\Gb w w'):=λw=>(Jb 1 0 a b ha.1 ha.2 hb.1 hb.2 w).mono λe w' ⟨Z,fl,hp,he,hg⟩=>⟨fl,by rw[H_ hp];exact he,hg⟩;generalize o7.mul a b=z at*
 clear ha hb;go_enter func112,ntmps112;go_wp2_with (go_at_call 64;refine(HA _).mono ?_;rintro e w1 ⟨fl,rfl,au⟩);go_returns;exact⟨rfl,kg⟩
def aRW(w:ak):CT 66 #[J 1,J 0,Y 4607182418800017408,Y 4611686018427387904] w λe w'=>∃fl:Int,e=O (aU yu fl)/\Gb w w':=by
 refine(Xb FT 0 4607182418800017408 4611686018427387904 ⟨de,de⟩ de de de de (x:=⟨1,0,0-52,4503599627370496⟩) (y:=⟨1,0,1-52,4503599627370496⟩) (BP 0 0 de de de) (BP 0 1 de de de) rfl rfl w).mono ?_;rintro e w' ⟨Z,fl,hp,he,hg⟩;refine⟨fl,?_,hg⟩;have h1:qK 53 (1-1023) 1023 4503599627370496 9218868437227405312 9223372036854775808 9221120237041090560 0 ⟨1,0,-59,288230376151711744⟩ yu 0:=.inl (.inr (.inl ⟨rfl,4602678819172646912,⟨-1,-1,4503599627370496,4503599627370496,0,de,.inr ⟨de,rfl⟩,de,de,de,.inr (.inr ⟨de,de,de,.inl ⟨rfl,rfl⟩⟩)⟩,rfl⟩));have h2:=(qK.one hp h1).1;rw[he,h2]
def aIm(w:ak):QB 113 #[] w (Y yu):=by
 have hf:=vN;have H1:KB 111 #[J 1] (Y 4607182418800017408):=λw=>by have:=TT 1 de de w;rw[i1]at this;exact this
 have H2:KB 111 #[J 2] (Y 4611686018427387904):=λw=>by have:=TT 2 de de w;rw[i2]at this;exact this
 have HA:Hid _:=aRW;go_enter func113,ntmps113;go_wp2_with (first|(go_at_call 111;first|(with_reducible refine ku (H1.out _) λw1 au=>?_)|(with_reducible refine ku (H2.out _) λw2 aC=>?_))|(go_at_call 66;refine(HA _).mono ?_;rintro e w3 ⟨fl,rfl,aO⟩))
 go_returns;exact⟨rfl,kg⟩
def aP3(ha:Wo a):∃c s x g:Int,Unp a c s/\bW 1 a c s x g:=by
 have h0:=ha.1;have h1:=ha.2;obtain⟨x,hx⟩:=fH FT a h0 h1;refine⟨x.c,x.s,x.e,((x.M:Nat):Int),?_,ji FT a h0 om hx⟩;rcases hx with⟨_,v,hs,hv⟩|⟨c,_⟩
 .have hva:v=a%9223372036854775808:=om;refine⟨om,?_,?_,om⟩
  .exact aMg
  .exact aMg
 .omega
def aTi:o7.S where
 word:=λn n0 n1 w=>TT n n0 n1 w
 minus:=λa b ha hb w=>aKw ha hb w
 times:=λa b ha hb w=>aCi ha hb w
 half:=aIm
 aIv:=λw=>(lX 1 0 3 _ de de w).mono λe w' ⟨Z,fl,hp,he,hg⟩=>⟨fl,by rw[<-(iE.one hp f32).1];exact he,hg⟩
 aIu:=λw=>(lX 1 0 3 _ de de w).mono λe w' ⟨Z,fl,hp,he,hg⟩=>⟨fl,by rw[<-(iE.one hp f63).1];exact he,hg⟩
 unp:=aP3
 order:=λa b ha hb w=>Fz 1 a b _ _ 9223372036854775808 _ (λw=>lg FT w) de rfl rfl rfl w
 lN:=λa ha w=>(yE 1 4 a false ha.1 ha.2 w).mono λe w' ⟨Z,fl,hp,he,hg⟩=>⟨fl,by rw[MF hp];exact he,hg⟩
 fix:=λa ha w=>(sO 1 2 3 a ha.1 ha.2 w).mono λe w' ⟨Z,fl,hp,he,hg⟩=>⟨fl,by rw[UY hp];exact he,hg⟩
 whole:=λa ha w=>(sO 1 0 1 a ha.1 ha.2 w).mono λe w' ⟨Z,fl,hp,he,hg⟩=>⟨fl,by rw[Ov hp];exact he,hg⟩
 k1:=by rw[aTo];exact aTl
 k2:=by rw[i41];exact m41
 k3:=by rw[i1];exact m1
 k4:=by rw[i2];exact m2
 k5:=by rw[i0];exact m0
 k6:=mh
 k7:=mq
 neg:=aQ3
def aJr(n:Int)(n0:-9223372036854775808<=n)(n1:n<=9223372036854775807)(hw:Fm w):
  QR 276 #[J n] w (Y (o7.int n)):=by
 have hf:=vN;have hwr:IntKind.u64.wrap n=n%18446744073709551616:=iT n;have HA:Hid (CT 92 #[J 1,J 0,J 1,Y (n%18446744073709551616)] w λe w'=>∃fl:Int,e=O (aU (o7.int n) fl)/\Gr w w'):=(uy 1 0 1 _ (Int.emod_nonneg _ de) (Int.emod_lt_of_pos _ de) w hw).mono λe w' ⟨Z,fl,hp,he,hg⟩=>⟨fl,by rw[A_ hp];exact he,hg⟩;generalize o7.int n=z at*
 generalize n%18446744073709551616=u at*
 clear hw;go_enter func276,ntmps276;go_wp2_with (go_at_call 92;refine HA.out.mono ?_;rintro e w1 ⟨fl,rfl,au⟩);go_returns;exact⟨rfl,kr⟩
def aHC(ha:Wo a)(hb:Wo b)(hw:Fm w):
  QR 200 #[Y a,Y b] w (Y (o7.sub a b)):=by
 have hf:=vN;have HA:Hid (CT 27 #[J 1,J 0,Y a,Y b] w λe w'=>∃fl:Int,e=O (aU (o7.sub a b) fl)/\Gr w w'):=(Kz 1 0 a b ha.1 ha.2 hb.1 hb.2 w hw).mono λe w' ⟨Z,fl,hp,he,hg⟩=>⟨fl,by rw[UW hp];exact he,hg⟩;generalize o7.sub a b=z at*
 clear ha hb hw;go_enter func200,ntmps200;go_wp2_with (go_at_call 27;refine HA.out.mono ?_;rintro e w1 ⟨fl,rfl,au⟩);go_returns;exact⟨rfl,kr⟩
def aGj(ha:Wo a)(hb:Wo b)(hw:Fm w):
  QR 201 #[Y a,Y b] w (Y (o7.mul a b)):=by
 have hf:=vN;have HA:Hid (CT 28 #[J 1,J 0,Y a,Y b] w λe w'=>∃fl:Int,e=O (aU (o7.mul a b) fl)/\Gr w w'):=(KA 1 0 a b ha.1 ha.2 hb.1 hb.2 w hw).mono λe w' ⟨Z,fl,hp,he,hg⟩=>⟨fl,by rw[H_ hp];exact he,hg⟩;generalize o7.mul a b=z at*
 clear ha hb hw;go_enter func201,ntmps201;go_wp2_with (go_at_call 28;refine HA.out.mono ?_;rintro e w1 ⟨fl,rfl,au⟩);go_returns;exact⟨rfl,kr⟩
def aPj(ha:Wo a)(hw:Fm w):
  QR 202 #[Y a] w (Y (o7.fix a)):=by
 have hf:=vN;have HA:Hid (CT 94 #[J 1,J 2,J 3,Y a] w λe w'=>∃fl:Int,e=O (aU (o7.fix a) fl)/\Gr w w'):=(sU 1 2 3 a ha.1 ha.2 w hw).mono λe w' ⟨Z,fl,hp,he,hg⟩=>⟨fl,by rw[UY hp];exact he,hg⟩;generalize o7.fix a=z at*
 clear ha hw;go_enter func202,ntmps202;go_wp2_with (go_at_call 94;refine HA.out.mono ?_;rintro e w1 ⟨fl,rfl,au⟩);go_returns;exact⟨rfl,kr⟩
def aTj:o7.I where
 word:=λn n0 n1 w hw=>aJr n n0 n1 hw
 minus:=λa b ha hb w hw=>aHC ha hb hw
 times:=λa b ha hb w hw=>aGj ha hb hw
 fix:=λa ha w hw=>aPj ha hw
 lN:=λa ha w hw=>(yT 1 4 a false ha.1 ha.2 w hw).mono λe w' ⟨Z,fl,hp,he,hg⟩=>⟨fl,by rw[MF hp];exact he,hg⟩
 whole:=λa ha h0 w hw=>(sU 1 2 1 (o7.lN a) (Sv.lN ha).1 (Sv.lN ha).2 w hw).mono λe w' ⟨Z,fl,hp,he,hg⟩=>⟨fl,by rw[aJs ha h0 hp];exact he,hg⟩
def aGC{o:O7}(H:o.S)(HI:o.In)(hm:Wo mu)(hi:Wo inv)(hs:Wo scale)(s:aJ)(hz:s.size<=1048576)(w:ak):
  CT 56 #[Y mu,Y inv,Y scale,.string s] w λe w'=>∃r,o.nT mu inv scale s r/\e=O (QV r)/\Gb w w':=by
 by_cases c:s.size<=20000/\isC mu inv scale=true
 .exact(Uu H HI hm hi hs s c.1 c.2 w).mono λe w' ⟨r,h1,h2,h3⟩=>⟨r,by unfold O7.nT;rw[aQ c];exact h1,h2,h3⟩
 .exact(Xl H HI hm hi hs s hz c w).mono λe w' ⟨h1,h2⟩=>⟨_,by unfold O7.nT;rw[aH c],h1,h2⟩
def aGE{o:O7}(H:o.I)(HI:o.In)(hm:Wo mu)(hi:Wo inv)(hs:Wo scale)(s:aJ)(hz:s.size<=1048576)(hw:Fm w)(hT:Tl w)(hD:Dc w):
  CT 105 #[Y mu,Y inv,Y scale,.string s] w λe w'=>∃r,o.nT mu inv scale s r/\e=O (QV r)/\Gr w w':=by
 by_cases c:s.size<=20000/\isC mu inv scale=true
 .exact(Uw H HI hm hi hs s c.1 c.2 hw hT hD).mono λe w' ⟨r,h1,h2,h3⟩=>⟨r,by unfold O7.nT;rw[aQ c];exact h1,h2,h3⟩
 .exact(Xm hm hi hs s hz c hw).mono λe w' ⟨h1,h2⟩=>⟨_,by unfold O7.nT;rw[aH c],h1,h2⟩
end
