import Derived.Test.YthoelefkjpjhfaaGreatDoorM0
import Derived.Test.YthoelefkjpjhfaaGreatDoorM7
import Derived.Test.YthoelefkjpjhfaaGreatDoorT6
set_option linter.all false
open Go.Proofs.YthoelefkjpjhfaaGreatDoor renaming vI → J, vU → Y
open Go.Ending renaming returned → O
open Go.Proofs.Tryz
namespace Go.Proofs.YthoelefkjpjhfaaGreatDoor
open Go.RowKit
variable{a fl Z b aj f p mx one aI sg nan s z aF n e mu inv scale t k j x T:Int}{w:World}{M:Nat}{ex:Bool}
def NS(p mn mx md:Int)(k:Nat)(x y:dM)(hx:VO x)(hy:VO y)(h2:max x.c y.c<3)(w:World):
  CT 83 #[dN p mn mx md k,aU x.s x.e x.c (((x.M/18446744073709551616:Nat):Int)) (((x.M%18446744073709551616:Nat):Int)) false 0,aU y.s y.e y.c (((y.M/18446744073709551616:Nat):Int)) (((y.M%18446744073709551616:Nat):Int)) false 0] w λe w'=>∃os oe oc oh ol ot,pG (jy md x (xY y)) os oe oc oh ol ot/\e=O (aU os oe oc oh ol ot 0)/\Gr w w':=
 NT p mn mx md k _ _ _ _ _ _ _ _ _ _ _ _ (1-y.s) (by rcases hy.jM with e|e<;>rw[e]<;>decide+kernel) _ (λw=>sum_any p mn mx md k x (xY y) hx hy.turn h2 w) w
def xK(p mn mx md:Int)(k:Nat)(x y:dM)(hx:VO x)(hy:VO y)(w:World):
  CT 173 #[dN p mn mx md k,.func (.func 83) #[] #[],aU x.s x.e x.c (((x.M/18446744073709551616:Nat):Int)) (((x.M%18446744073709551616:Nat):Int)) false 0,aU y.s y.e y.c (((y.M/18446744073709551616:Nat):Int)) (((y.M%18446744073709551616:Nat):Int)) false 0] w λe w'=>∃os oe oc oh ol ot,pG (jy md x (xY y)) os oe oc oh ol ot/\e=O (aU os oe oc oh ol ot 0)/\Gr w w':=by
 by_cases h:3<=max x.c y.c
 .refine(jG p mn mx md k _ _ _ _ _ _ _ _ _ _ _ _ 83 _ rfl h w).mono ?_;rintro r w' ⟨rfl,hg⟩;have:=hx.c4;have:=hy.c4;rw[n_ md x (xY y) h];exact⟨_,_,_,_,_,_,Wh _ h (om:max x.c y.c<=4),rfl,hg⟩
 .exact CU p mn mx md k _ _ _ _ _ _ _ _ _ _ _ _ _ rfl om _ (λw=>NS p mn mx md k x y hx hy om w) w
def Dq(aj:Int)(x y:dM):dM:=jy aj x (xY y)
def I7(f aj a b:Int)(a0:0<=a)(a1:aG a)(b0:0<=b)(b1:aG b)(w:World)(hw:Fm w):
  CT 27 #[J f,J aj,Y a,Y b] w λe w'=>∃Z fl,qZ Dq f aj a b Z fl/\e=O (aP Z fl)/\Gr w w':=by
 refine ZN f aj a b (qZ Dq f aj a b) (λw' hg=>?_);have y8:=hw.gr hg;by_cases hf:f=0\/f=1
 .obtain⟨p,mx,one,aI,sg,nan,hF⟩:=eX f hf;obtain⟨mn,fb,sp,hM,zU,PD⟩:=hF.m;by_cases hm:0<=aj/\aj<=4
  .obtain⟨k,hk⟩:=kW aj hm.1 hm.2;obtain⟨x,hx,HA⟩:=jf hF hM a a0 a1;obtain⟨y,hy,HB⟩:=jf hF hM b b0 b1;obtain⟨v1,v2,v3,v4,v5,v6⟩:=bK hF hx;obtain⟨u1,u2,u3,u4,u5,u6⟩:=bK hF hy;refine(TS p mn mx aj f k 83 a b _ _ _ _ _ _ _ _ _ _ _ _ (λaT dL=>dV hF hM aj k (λw=>gW aj k hk w) (y8.gr dL)) HA HB (pG (Dq aj x y)) (λw=>xK p mn mx aj k x y v1 u1 w) (bY p mn mx one aI sg nan aj (Dq aj x y)) (λos oe oc oh ol ot w hq=>oz hM aj k hk _ os oe oc oh ol ot hq w)).mono ?_;rintro e aT ⟨Z,fl,hp,rfl,dL⟩;rw[zU]at hp;exact⟨_,_,.inl ⟨p,mx,one,aI,sg,nan,x,y,hF,hm,hx,hy,hp⟩,rfl,dL⟩
  .refine(j_ p mn mx aj nan f aj a b (λaT dL=>gJ hF hM aj (λw=>jR aj om w) (y8.gr dL)) (λw=>dh hM w) 83).mono ?_;rintro e aT ⟨rfl,dL⟩;exact⟨_,_,.inr (.inl ⟨p,mx,one,aI,sg,nan,hF,om,rfl,rfl⟩),rfl,dL⟩
 .refine(j_ _ _ _ _ _ f aj a b (λaT dL=>dP f aj hf (y8.gr dL)) (λw=>dh m64 w) 83).mono ?_;rintro e aT ⟨rfl,dL⟩;exact⟨_,_,.inr (.inr ⟨hf,rfl,rfl⟩),rfl,dL⟩
def Yw(h:bD f p mx one aI sg nan)(b z:Int)(b0:0<=b)(hb:b<2*sg)(hz:b<sg/\z=b+sg\/sg<=b/\z=b-sg){y:dM}(hy:dF p mx one aI sg nan b y):0<=z/\z<2*sg/\dF p mx one aI sg nan z (xY y):=by
 have hbd:=h.bounds;rcases hy with⟨_,v,hs,hc⟩|⟨c,_⟩
 .refine⟨om,om,.inl ⟨om,v,?_,hc⟩⟩;unfold xY;dsimp only
  rcases hs with⟨s0,rfl,s1⟩|⟨s0,rfl,s1⟩
  .rw[s0];exact .inr ⟨om,om,om⟩
  .rw[s0];exact .inl ⟨om,om,om⟩
 .exfalso;omega
def YC(h:bD f p mx one aI sg nan)(aj a b:Int)(hm:0<=aj/\aj<=4)(a0:0<=a)(a1:aG a)(b0:0<=b)(b1:aG b){x y:dM}(hx:dF p mx one aI sg nan a x)(hy:dF p mx one aI sg nan b y)(w:World):
  CT 63 #[J f,J aj,Y a,Y b] w λe w'=>∃Z fl,bY p (1-mx) mx one aI sg nan aj (Dq aj x y) Z fl/\e=O (aP Z fl)/\Gb w w':=by
 have hbd:=h.bounds;by_cases rM:a<2*sg/\b<2*sg
 .obtain⟨fa,NP⟩:=rM;obtain⟨z,hz⟩:∃z,b<sg/\z=b+sg\/sg<=b/\z=b-sg:=by
   by_cases c:b<sg
   .exact⟨_,.inl ⟨c,rfl⟩⟩
   .exact⟨_,.inr ⟨om,rfl⟩⟩
  obtain⟨z0,z1,lu⟩:=Yw h b z b0 NP hz hy;exact aIt f aj a b z (λw=>jK h aj a b hm.1 hm.2 a0 fa b0 NP w) (λw=>DW h b z b0 NP hz w) _ (λw=>Le h aj a z hm a0 a1 z0 om hx lu w) w
 .refine(Lm f aj a b (λw=>eG f aj a b a0 a1 b0 b1 (qP h a1 b1 om) w) nan 1 (λw=>cO h w) w).mono ?_;rintro e w' ⟨rfl,hg⟩;refine⟨_,_,?_,rfl,hg⟩;obtain⟨v1,_⟩:=bK h hx;obtain⟨u1,_⟩:=bK h hy;have xc4:=v1.c4;have yc4:=u1.c4;have:max x.c (xY y).c =4:=by
   show max x.c y.c=4;rcases(om:2*sg<=a\/2*sg<=b)with c|c
   .have:=jd h hx c;subst this;dsimp only at*;omega
   .have:=jd h hy c;subst this;dsimp only at*;omega
  unfold Dq;rw[n_ aj x (xY y) (by omega)];exact iW this
def Gw(f aj a b:Int)(a0:0<=a)(a1:aG a)(b0:0<=b)(b1:aG b)(w:World):
  CT 63 #[J f,J aj,Y a,Y b] w λe w'=>∃Z fl,qZ Dq f aj a b Z fl/\e=O (aP Z fl)/\Gb w w':=by
 by_cases hf:f=0\/f=1
 .obtain⟨p,mx,one,aI,sg,nan,hF⟩:=eX f hf;by_cases hm:0<=aj/\aj<=4
  .obtain⟨x,hx⟩:=eu hF a a0 a1;obtain⟨y,hy⟩:=eu hF b b0 b1;refine(YC hF aj a b hm a0 a1 b0 b1 hx hy w).mono ?_;rintro e w' ⟨Z,fl,hp,rfl,hg⟩;exact⟨_,_,.inl ⟨p,mx,one,aI,sg,nan,x,y,hF,hm,hx,hy,hp⟩,rfl,hg⟩
  .refine(Lm f aj a b (λw=>eG f aj a b a0 a1 b0 b1 (.inl om) w) nan 1 (λw=>cO hF w) w).mono ?_;rintro e w' ⟨rfl,hg⟩;exact⟨_,_,.inr (.inl ⟨p,mx,one,aI,sg,nan,hF,om,rfl,rfl⟩),rfl,hg⟩
 .refine(Lm f aj a b (λw=>eG f aj a b a0 a1 b0 b1 (.inr (.inl hf)) w) _ 1 (λw=>lN f hf w) w).mono ?_;rintro e w' ⟨rfl,hg⟩;exact⟨_,_,.inr (.inr ⟨hf,rfl,rfl⟩),rfl,hg⟩
def yP(f aj a b:Int)(a0:0<=a)(a1:aG a)(b0:0<=b)(b1:aG b):
  ∃Z fl:Int,qZ Dq f aj a b Z fl/\(∀w,QB 63 #[J f,J aj,Y a,Y b] w (aP Z fl))/\
   (∀w,Fm w->QR 27 #[J f,J aj,Y a,Y b] w (aP Z fl)):=
 TT Dq 63 27 (λaj x y hx hy _ _ _ _ _ _=>YA aj x (xY y) hx hy.turn) f aj a b a0 a1 b0 b1 (Gw f aj a b a0 a1 b0 b1) (I7 f aj a b a0 a1 b0 b1)
def aOE{b:Bool}(h:bD f p mx one aI sg nan)(hr:bH p (1-mx) mx one aI aj s M e b z fl):0<=z/\z<sg:=by
 have hb:=h.bounds;obtain⟨b_,E,r,r2,hf,h1,h2,h3,h4,h5,h6⟩:=hr;have hov:jE aI aj s=aI\/jE aI aj s=aI-1:=by unfold jE;split<;>simp
 have hE:0<=one*(E-(1-mx)):=Int.mul_nonneg om om;rcases h6 with⟨_,rfl,_⟩|⟨_,_,rfl,_⟩|⟨_,h7,rfl,_⟩
 .omega
 .omega
 .generalize one*(E-(1-mx))=Q at*
  omega
def P8{o:dM}(h:bD f p mx one aI sg nan)(hp:bY p (1-mx) mx one aI sg nan aj o Z fl):Wd Z:=by
 have hb:=h.bounds;have hsg:2*sg<=18446744073709551616:=by
  rcases h with⟨_,_,_,_,_,rfl,_⟩|⟨_,_,_,_,_,rfl,_⟩<;>omega
 have AO:∀z,0<=z->z<sg->Wd (sw o.s sg z):=by
  intro z z0 z1;unfold sw Wd;split<;>omega
 rcases hp with⟨_,rfl,_⟩|⟨_,z,hz,rfl⟩|⟨_,rfl,_⟩|⟨_,rfl,_⟩|⟨_,rfl,_⟩
 .exact AO 0 om om
 .have:=aOE h hz;exact AO z this.1 this.2
 .exact AO aI om om
 .unfold Wd;omega
 .unfold Wd;omega
def BQ(h:bD f p mx one aI sg nan):Wd nan:=by
 rcases h with⟨_,_,_,_,_,_,rfl⟩|⟨_,_,_,_,_,_,rfl⟩<;>(unfold Wd;omega)
def qZ.wd{R:Int->dM->dM->dM}(h:qZ R f aj a b Z fl):Wd Z:=by
 rcases h with⟨p,mx,one,aI,sg,nan,x,y,hF,hm,hx,hy,hp⟩|⟨p,mx,one,aI,sg,nan,hF,hm,rfl,rfl⟩|⟨hF,rfl,rfl⟩
 .exact P8 hF hp
 .exact BQ hF
 .unfold Wd;omega
def nJ.wd{R:Int->Int->dM->dM->dM}(h:nJ R f aj a b Z fl):Wd Z:=by
 rcases h with⟨p,mx,one,aI,sg,nan,x,y,hF,hm,hx,hy,hp⟩|⟨p,mx,one,aI,sg,nan,hF,hm,rfl,rfl⟩|⟨hF,rfl,rfl⟩
 .rcases hp with hp|⟨_,rfl,_⟩
  .exact P8 hF hp
  .have hb:=hF.bounds;rcases hF with⟨_,_,_,_,rfl,rfl,_⟩|⟨_,_,_,_,rfl,rfl,_⟩<;>(unfold Wd sw;split<;>omega)
 .exact BQ hF
 .unfold Wd;omega
def gQ.wd(h:gQ f aj aF a Z fl):Wd Z:=by
 rcases h with⟨p,mx,one,aI,sg,nan,hF,hm,hk,hp⟩|⟨p,mx,one,aI,sg,nan,hF,hm,rfl,rfl⟩|⟨hF,rfl,rfl⟩
 .exact P8 hF hp
 .exact BQ hF
 .unfold Wd;omega
def f64:bD 1 53 1023 4503599627370496 9218868437227405312 9223372036854775808 9221120237041090560:=.inr ⟨rfl,rfl,rfl,rfl,rfl,rfl,rfl⟩
def NK(n:Nat)(h0:0<n)(h1:n<1000)(z:Int)(hz:bH 53 (1-1023) 1023 4503599627370496 9218868437227405312 0 0 n 0 false z 0):gQ 1 0 1 (n:Int) z 0:=by
 have hs:gu 1 (n:Int)=0:=by unfold gu;rw[if_neg (by omega)]
 have hM:jg 1 (n:Int)=n:=by unfold jg;rw[if_neg (by omega)];omega
 refine .inl ⟨53,1023,4503599627370496,9218868437227405312,9223372036854775808,9221120237041090560,f64,⟨om,om⟩,?_,?_⟩
 .unfold iJ;rw[hs,hM,show fH 1 0=9223372036854775807 by decide];exact decide_eq_true om
 .unfold FI;rw[hs,hM,if_neg (by omega)];exact .inr (.inl ⟨rfl,z,hz,rfl⟩)
def aMQ:gQ 1 0 1 1 4607182418800017408 0:=NK 1 de de _ ⟨0,0,4503599627370496,4503599627370496,0,de,.inr ⟨de,rfl⟩,de,de,de,.inr (.inr ⟨de,de,de,.inl ⟨rfl,rfl⟩⟩)⟩
def aMf:gQ 1 0 1 2 4611686018427387904 0:=NK 2 de de _ ⟨1,1,4503599627370496,4503599627370496,0,de,.inr ⟨de,rfl⟩,de,de,de,.inr (.inr ⟨de,de,de,.inl ⟨rfl,rfl⟩⟩)⟩
def aJt:nJ divO 1 0 4607182418800017408 4611686018427387904 4602678819172646912 0:=by
 refine .inl ⟨53,1023,4503599627370496,9218868437227405312,9223372036854775808,9221120237041090560,⟨1,0,-52,4503599627370496⟩,⟨1,0,-51,4503599627370496⟩,f64,⟨om,om⟩,?_,?_,.inl ?_⟩
 .exact .inl ⟨de,4607182418800017408,.inl ⟨rfl,rfl,de⟩,.inr (.inr (.inr (.inr ⟨de,de,rfl,0,4503599627370496,-52,.inr ⟨de,de,de⟩,de,de,de,de⟩)))⟩
 .exact .inl ⟨de,4611686018427387904,.inl ⟨rfl,rfl,de⟩,.inr (.inr (.inr (.inr ⟨de,de,rfl,0,4503599627370496,-51,.inr ⟨de,de,de⟩,de,de,de,de⟩)))⟩
 .have e:divO 53 0 ⟨1,0,-52,4503599627370496⟩ ⟨1,0,-51,4503599627370496⟩=⟨1,0,-59,288230376151711744⟩:=by
   unfold divO;rw[if_neg de,if_neg de,if_neg de,if_neg de,if_pos (by decide)];rfl
  rw[e];exact .inr (.inl ⟨rfl,4602678819172646912,⟨-1,-1,4503599627370496,4503599627370496,0,de,.inr ⟨de,rfl⟩,de,de,de,.inr (.inr ⟨de,de,de,.inl ⟨rfl,rfl⟩⟩)⟩,rfl⟩)
section
variable [Inhabited Ch]
def aD8(a b:Int):Int:=pick (qZ jy 1 0 a b)
def aD5(a b:Int):Int:=pick (qZ Dq 1 0 a b)
def aD6(a b:Int):Int:=pick (qZ uX 1 0 a b)
def aBO(a b:Int):Int:=pick (nJ divO 1 0 a b)
def Us(a:Int):Int:=pick (nJ oW 1 0 a a)
def QZ(h:qZ jy 1 0 a b Z fl):aD8 a b=Z:=kX qZ.one h
def QX(h:qZ Dq 1 0 a b Z fl):aD5 a b=Z:=kX qZ.one h
def QY(h:qZ uX 1 0 a b Z fl):aD6 a b=Z:=kX qZ.one h
def JU(h:nJ divO 1 0 a b Z fl):aBO a b=Z:=kX nJ.one h
def Ku(h:nJ oW 1 0 a a Z fl):Us a=Z:=kX nJ.one h
def aD7(n:Int):Int:=pick (gQ 1 0 1 (n%18446744073709551616))
def Dn(h:gQ 1 0 1 (n%18446744073709551616) Z fl):aD7 n=Z:=kX gQ.one h
def VW:Ops:=⟨aD7,aD8,aD5,aD6,aBO,Us⟩
def aA7:VW.In where
 int n:=by obtain⟨Z,fl,h⟩:=TF 1 0 1 (n%18446744073709551616);show Wd (aD7 n);rw[Dn h];exact h.wd
 add ha hb:=by obtain⟨Z,fl,h,h1,h2⟩:=add_same 1 0 _ _ ha.1 ha.2 hb.1 hb.2;show Wd (aD8 _ _);rw[QZ h];exact h.wd
 sub ha hb:=by obtain⟨Z,fl,h,h1,h2⟩:=yP 1 0 _ _ ha.1 ha.2 hb.1 hb.2;show Wd (aD5 _ _);rw[QX h];exact h.wd
 mul ha hb:=by obtain⟨Z,fl,h,h1,h2⟩:=yY 1 0 _ _ ha.1 ha.2 hb.1 hb.2;show Wd (aD6 _ _);rw[QY h];exact h.wd
 div ha hb:=by obtain⟨Z,fl,h,h1,h2⟩:=Ea 1 0 _ _ ha.1 ha.2 hb.1 hb.2;show Wd (aBO _ _);rw[JU h];exact h.wd
 sqrt ha:=by obtain⟨Z,fl,h,h1,h2⟩:=zI 1 0 _ ha.1 ha.2;show Wd (Us _);rw[Ku h];exact h.wd
def aMN:VW.S where
 one:=Dn (n:=1) aMQ
 half:=by
  have h2:aD7 2=4611686018427387904:=Dn (n:=2) aMf;show aBO _ (aD7 2)=_;rw[h2];exact JU aJt
 int n u n0 n1 hu:=by
  subst hu;intro w;have h0:0<=n%18446744073709551616:=Int.emod_nonneg _ om;have h1:n%18446744073709551616<18446744073709551616:=Int.emod_lt_of_pos _ om;refine(kF 1 0 1 (n%18446744073709551616) h0 h1 w).mono ?_;rintro e w' ⟨Z,fl,hp,he,hg⟩;exact⟨fl,by rw[show VW.int n=Z from Dn hp];exact he,hg⟩
 add ha hb:=by obtain⟨Z,fl,h,h1,h2⟩:=add_same 1 0 _ _ ha.1 ha.2 hb.1 hb.2;intro w;show Calls _ _ _ _ (λe w'=>∃fl,e=O (.agg #[Y (aD8 _ _),_])/\_);rw[QZ h];exact(h1 w).mono λe w' h=>⟨fl,h⟩
 sub ha hb:=by obtain⟨Z,fl,h,h1,h2⟩:=yP 1 0 _ _ ha.1 ha.2 hb.1 hb.2;intro w;show Calls _ _ _ _ (λe w'=>∃fl,e=O (.agg #[Y (aD5 _ _),_])/\_);rw[QX h];exact(h1 w).mono λe w' h=>⟨fl,h⟩
 mul ha hb:=by obtain⟨Z,fl,h,h1,h2⟩:=yY 1 0 _ _ ha.1 ha.2 hb.1 hb.2;intro w;show Calls _ _ _ _ (λe w'=>∃fl,e=O (.agg #[Y (aD6 _ _),_])/\_);rw[QY h];exact(h1 w).mono λe w' h=>⟨fl,h⟩
 div ha hb:=by obtain⟨Z,fl,h,h1,h2⟩:=Ea 1 0 _ _ ha.1 ha.2 hb.1 hb.2;intro w;show Calls _ _ _ _ (λe w'=>∃fl,e=O (.agg #[Y (aBO _ _),_])/\_);rw[JU h];exact(h1 w).mono λe w' h=>⟨fl,h⟩
 sqrt ha:=by obtain⟨Z,fl,h,h1,h2⟩:=zI 1 0 _ ha.1 ha.2;intro w;show Calls _ _ _ _ (λe w'=>∃fl,e=O (.agg #[Y (Us _),_])/\_);rw[Ku h];exact(h1 w).mono λe w' h=>⟨fl,h⟩
def aMO:VW.I where
 add ha hb:=by obtain⟨Z,fl,h,h1,h2⟩:=add_same 1 0 _ _ ha.1 ha.2 hb.1 hb.2;intro w hw;show Calls _ _ _ _ (λe w'=>∃fl,e=O (.agg #[Y (aD8 _ _),_])/\_);rw[QZ h];exact(h2 w hw).mono λe w' h=>⟨fl,h⟩
 sub ha hb:=by obtain⟨Z,fl,h,h1,h2⟩:=yP 1 0 _ _ ha.1 ha.2 hb.1 hb.2;intro w hw;show Calls _ _ _ _ (λe w'=>∃fl,e=O (.agg #[Y (aD5 _ _),_])/\_);rw[QX h];exact(h2 w hw).mono λe w' h=>⟨fl,h⟩
 mul ha hb:=by obtain⟨Z,fl,h,h1,h2⟩:=yY 1 0 _ _ ha.1 ha.2 hb.1 hb.2;intro w hw;show Calls _ _ _ _ (λe w'=>∃fl,e=O (.agg #[Y (aD6 _ _),_])/\_);rw[QY h];exact(h2 w hw).mono λe w' h=>⟨fl,h⟩
 div ha hb:=by obtain⟨Z,fl,h,h1,h2⟩:=Ea 1 0 _ _ ha.1 ha.2 hb.1 hb.2;intro w hw;show Calls _ _ _ _ (λe w'=>∃fl,e=O (.agg #[Y (aBO _ _),_])/\_);rw[JU h];exact(h2 w hw).mono λe w' h=>⟨fl,h⟩
 sqrt ha:=by obtain⟨Z,fl,h,h1,h2⟩:=zI 1 0 _ ha.1 ha.2;intro w hw;show Calls _ _ _ _ (λe w'=>∃fl,e=O (.agg #[Y (Us _),_])/\_);rw[Ku h];exact(h2 w hw).mono λe w' h=>⟨fl,h⟩
end
def D9:bD 1 53 1023 4503599627370496 9218868437227405312 9223372036854775808 9221120237041090560:=.inr ⟨rfl,rfl,rfl,rfl,rfl,rfl,rfl⟩
def fmt7(h:bD 1 p mx one aI sg nan):p=53/\mx=1023/\one=4503599627370496/\aI=9218868437227405312/\sg=9223372036854775808/\nan=9221120237041090560:=h.one D9
abbrev aJ9(a:Int)(x:dM):Prop:=dF 53 1023 4503599627370496 9218868437227405312 9223372036854775808 9221120237041090560 a x
abbrev aL6(aj:Int)(x:dM)(Z fl:Int):Prop:=bY 53 (1-1023) 1023 4503599627370496 9218868437227405312 9223372036854775808 9221120237041090560 aj x Z fl
def aFv{b:Bool}(hr:bH 53 (1-1023) 1023 4503599627370496 9218868437227405312 aj s M e b z fl):0<=z/\z<=9218868437227405312:=by
 obtain⟨b_,E,r,r2,hf,h1,h2,h3,h4,h5,h6⟩:=hr;have hov:jE 9218868437227405312 aj s=9218868437227405312\/jE 9218868437227405312 aj s=9218868437227405312-1:=by unfold jE;split<;>simp
 rcases h6 with⟨_,rfl,_⟩|⟨_,_,rfl,_⟩|⟨_,h7,rfl,_⟩<;>omega
def Fe{o:dM}(h:aL6 aj o Z fl):Wo Z/\(9223372036854775808<=Z->Z%9223372036854775808<=9218868437227405312)/\(o.s=1->o.c<=2->9223372036854775808<=Z):=by
 have AO:∀z,0<=z->z<=9218868437227405312->Wo (sw o.s 9223372036854775808 z)/\(9223372036854775808<=sw o.s 9223372036854775808 z->sw o.s 9223372036854775808 z%9223372036854775808<=9218868437227405312)/\(o.s=1->o.c<=2->9223372036854775808<=sw o.s 9223372036854775808 z):=by
  intro z z0 z1;unfold sw Wo;split<;>omega
 rcases h with⟨_,rfl,_⟩|⟨_,z,hz,rfl⟩|⟨_,rfl,_⟩|⟨c,rfl,_⟩|⟨c,rfl,_⟩
 .exact AO 0 om om
 .have:=aFv hz;exact AO z this.1 this.2
 .exact AO _ om om
 .exact⟨Wo.c _,om,om⟩
 .exact⟨Wo.c _,om,om⟩
section
variable [Inhabited Ch]
def o7:O7:=⟨λn=>pick (gQ 1 0 1 (n%18446744073709551616)),λa b=>pick (qZ Dq 1 0 a b),λa b=>pick (qZ uX 1 0 a b),λa=>pick (lU 1 4 a false),λa=>pick (fU 1 2 3 a),λa=>pick (fU 1 0 1 a)⟩
def aA8{R:Int->dM->dM->dM}(h:qZ R 1 0 a b Z fl):∃x y,aJ9 a x/\aJ9 b y/\aL6 0 (R 0 x y) Z fl:=by
 rcases h with⟨p,mx,one,aI,sg,nan,x,y,hF,hm,hx,hy,hp⟩|⟨p,mx,one,aI,sg,nan,hF,hm,rfl,rfl⟩|⟨hF,_⟩
 .obtain⟨rfl,rfl,rfl,rfl,rfl,rfl⟩:=fmt7 hF;exact⟨x,y,hx,hy,hp⟩
 .omega
 .omega
def aEU(ha:Wo a)(hb:Wo b):∃Z fl,qZ Dq 1 0 a b Z fl:=by obtain⟨Z,fl,h,_⟩:=yP 1 0 a b ha.1 ha.2 hb.1 hb.2;exact⟨Z,fl,h⟩
def aGb(ha:Wo a)(hb:Wo b):∃Z fl,qZ uX 1 0 a b Z fl:=by obtain⟨Z,fl,h,_⟩:=yY 1 0 a b ha.1 ha.2 hb.1 hb.2;exact⟨Z,fl,h⟩
def vK(s:Int)(M:Nat)(h:aG M):Wo (kV s M):=by unfold kV Wo;split<;>omega
def J6(aF s:Int):fH aF s<18446744073709551616:=by unfold fH;(repeat' split)<;>omega
def aAT(h:fU 1 aj aF a Z fl):Wo Z:=by
 rcases h with⟨p,mx,one,aI,sg,nan,x,hF,ha,hm,hk,hx,hp⟩|⟨_,rfl,_⟩
 .have hm:=J6 aF x.s;rcases hp with⟨_,rfl,_⟩|⟨_,c,rfl,_⟩|⟨_,_,rfl,_⟩
  .exact vK _ _ (J6 aF 0)
  .exact vK _ _ om
  .exact vK _ _ hm
 .exact Wo.c 0
def aMu(h:lU 1 aj a ex Z fl):Wo Z:=by
 rcases h with⟨p,mx,one,aI,sg,nan,x,hF,hm,hx,hp⟩|⟨p,mx,one,aI,sg,nan,hF,hm,rfl,rfl⟩|⟨_,rfl,_⟩
 .obtain⟨rfl,rfl,rfl,rfl,rfl,rfl⟩:=fmt7 hF;rcases hp with⟨_,rfl,_⟩|⟨_,hp,_⟩
  .exact Wo.c _
  .exact(Fe hp).1
 .obtain⟨rfl,rfl,rfl,rfl,rfl,rfl⟩:=fmt7 hF;exact Wo.c _
 .exact Wo.c _
def aNz(h:gQ 1 aj aF a Z fl):Wo Z:=by
 rcases h with⟨p,mx,one,aI,sg,nan,hF,hm,hk,hp⟩|⟨p,mx,one,aI,sg,nan,hF,hm,rfl,rfl⟩|⟨_,rfl,_⟩
 .obtain⟨rfl,rfl,rfl,rfl,rfl,rfl⟩:=fmt7 hF;exact(Fe hp).1
 .obtain⟨rfl,rfl,rfl,rfl,rfl,rfl⟩:=fmt7 hF;exact Wo.c _
 .exact Wo.c _
def Sv(h:qZ Dq 1 0 a b Z fl):o7.sub a b=Z:=kX qZ.one h
def Fj(h:qZ uX 1 0 a b Z fl):o7.mul a b=Z:=kX qZ.one h
def yU(h:gQ 1 0 1 (n%18446744073709551616) Z fl):o7.int n=Z:=kX gQ.one h
def JX(h:lU 1 4 a false Z fl):o7.jW a=Z:=kX lU.one h
def Sz(h:fU 1 2 3 a Z fl):o7.fix a=Z:=kX fU.one h
def MB(h:fU 1 0 1 a Z fl):o7.whole a=Z:=kX fU.one h
def aBa:o7.In where
 int n:=by obtain⟨Z,fl,h⟩:=TF 1 0 1 (n%18446744073709551616);rw[yU h];exact aNz h
 sub ha hb:=by obtain⟨Z,fl,h⟩:=aEU ha hb;obtain⟨x,y,_,_,hp⟩:=aA8 h;rw[Sv h];exact(Fe hp).1
 aOw ha hb:=by obtain⟨Z,fl,h⟩:=aEU ha hb;obtain⟨x,y,_,_,hp⟩:=aA8 h;rw[Sv h];exact(Fe hp).2.1
 mul ha hb:=by obtain⟨Z,fl,h⟩:=aGb ha hb;obtain⟨x,y,_,_,hp⟩:=aA8 h;rw[Fj h];exact(Fe hp).1
 jW ha:=by obtain⟨Z,fl,h⟩:=RU 1 4 _ false ha.1 ha.2;rw[JX h];exact aMu h
 fix ha:=by obtain⟨Z,fl,h⟩:=Dp 1 2 3 _ ha.1 ha.2;rw[Sz h];exact aAT h
 whole ha:=by obtain⟨Z,fl,h⟩:=Dp 1 0 1 _ ha.1 ha.2;rw[MB h];exact aAT h
def zK(s k:Int)(hs:s=0\/s=1)(k0:-1022<=k)(k1:k<=1023):aJ9 (sw s 9223372036854775808 (4503599627370496*(k+1023))) ⟨1,s,k-52,4503599627370496⟩:=by
 refine .inl ⟨by unfold sw;split<;>omega,4503599627370496*(k+1023),?_,.inr (.inr (.inr (.inr ⟨om,om,rfl,0,4503599627370496,k-52,.inr ⟨om,om,om⟩,by dsimp only;decide,by dsimp only;omega,by dsimp only;decide,by dsimp only;decide⟩)))⟩;rcases hs with rfl|rfl
 .exact .inl ⟨rfl,by unfold sw;rw[if_neg (by decide)],by unfold sw;rw[if_neg (by decide)];omega⟩
 .exact .inr ⟨rfl,by unfold sw;rw[if_pos rfl];omega,by unfold sw;rw[if_pos rfl];omega⟩
def Fv(hs:s=0\/s=1)(ht:t=0\/t=1)(k0:-1022<=k)(k1:k<=1023)(j0:-1022<=j)(j1:j<=1023)(ha:a=sw s 9223372036854775808 (4503599627370496*(k+1023)))(hb:b=sw t 9223372036854775808 (4503599627370496*(j+1023)))
  (hr:bH 53 (1-1023) 1023 4503599627370496 9218868437227405312 0 (mulS s t) 20282409603651670423947251286016 (k-52+(j-52)) false z 0):o7.mul a b=sw (mulS s t) 9223372036854775808 z:=by
 refine Fj (fl:=0) (.inl ⟨53,1023,4503599627370496,9218868437227405312,9223372036854775808,9221120237041090560,⟨1,s,k-52,4503599627370496⟩,⟨1,t,j-52,4503599627370496⟩,D9,⟨de,de⟩,ha▸zK s k hs k0 k1,hb▸zK t j ht j0 j1,?_⟩);have e:uX 0 ⟨1,s,k-52,4503599627370496⟩ ⟨1,t,j-52,4503599627370496⟩=⟨1,mulS s t,k-52+(j-52),20282409603651670423947251286016⟩:=by
  unfold uX bZ;dsimp only
  rw[if_neg de,if_neg de,if_neg de,if_neg (by decide)]
 rw[e];exact .inr (.inl ⟨rfl,z,hr,rfl⟩)
def zZ(hk:iJ aF n=true)(hM:jg aF n=M)(hs:gu aF n=s)(h0:M≠0)(hr:bH 53 (1-1023) 1023 4503599627370496 9218868437227405312 0 s M 0 false z 0):gQ 1 0 aF n (sw s 9223372036854775808 z) 0:=by
 refine .inl ⟨53,1023,4503599627370496,9218868437227405312,9223372036854775808,9221120237041090560,D9,⟨de,de⟩,hk,?_⟩;have hi:FI aF n=⟨1,s,0,M⟩:=by unfold FI;rw[hM,hs,if_neg h0]
 rw[hi];exact .inr (.inl ⟨rfl,z,hr,rfl⟩)
def aRK:o7.int (-2199023255552)=14015202040376983552:=yU (n:=-2199023255552) (zZ (M:=2199023255552) (s:=1) (z:=4791830003522207744) de de de de ⟨41,41,4503599627370496,4503599627370496,0,de,.inr ⟨de,rfl⟩,de,de,de,.inr (.inr ⟨de,de,de,.inl ⟨rfl,rfl⟩⟩)⟩)
def i41:o7.int (2199023255552)=4791830003522207744:=yU (n:=2199023255552) (zZ (M:=2199023255552) (s:=0) (z:=4791830003522207744) de de de de ⟨41,41,4503599627370496,4503599627370496,0,de,.inr ⟨de,rfl⟩,de,de,de,.inr (.inr ⟨de,de,de,.inl ⟨rfl,rfl⟩⟩)⟩)
def i1:o7.int (1)=4607182418800017408:=yU (n:=1) (zZ (M:=1) (s:=0) (z:=4607182418800017408) de de de de ⟨0,0,4503599627370496,4503599627370496,0,de,.inr ⟨de,rfl⟩,de,de,de,.inr (.inr ⟨de,de,de,.inl ⟨rfl,rfl⟩⟩)⟩)
def i2:o7.int (2)=4611686018427387904:=yU (n:=2) (zZ (M:=2) (s:=0) (z:=4611686018427387904) de de de de ⟨1,1,4503599627370496,4503599627370496,0,de,.inr ⟨de,rfl⟩,de,de,de,.inr (.inr ⟨de,de,de,.inl ⟨rfl,rfl⟩⟩)⟩)
def i0:o7.int 0=0:=yU (n:=0) (fl:=0) (.inl ⟨53,1023,4503599627370496,9218868437227405312,9223372036854775808,9221120237041090560,D9,⟨de,de⟩,de,.inl ⟨rfl,rfl,rfl⟩⟩)
def f32:gQ 1 0 3 4294967296 c32 0:=zZ (M:=4294967296) (s:=0) de de de de ⟨32,32,4503599627370496,4503599627370496,0,de,.inr ⟨de,rfl⟩,de,de,de,.inr (.inr ⟨de,de,de,.inl ⟨rfl,rfl⟩⟩)⟩
def f63:gQ 1 0 3 9223372036854775808 c63 0:=zZ (M:=9223372036854775808) (s:=0) de de de de ⟨63,63,4503599627370496,4503599627370496,0,de,.inr ⟨de,rfl⟩,de,de,de,.inr (.inr ⟨de,de,de,.inl ⟨rfl,rfl⟩⟩)⟩
def aRG:o7.mul 14015202040376983552 vC=14010698440749613056:=Fv (s:=1) (t:=0) (k:=41) (j:=-1) (z:=4787326403894837248) de de de de de de de de ⟨40,40,4503599627370496,4503599627370496,0,de,.inr ⟨de,rfl⟩,de,de,de,.inr (.inr ⟨de,de,de,.inl ⟨rfl,rfl⟩⟩)⟩
def m41:o7.mul 4791830003522207744 vC=4787326403894837248:=Fv (s:=0) (t:=0) (k:=41) (j:=-1) (z:=4787326403894837248) de de de de de de de de ⟨40,40,4503599627370496,4503599627370496,0,de,.inr ⟨de,rfl⟩,de,de,de,.inr (.inr ⟨de,de,de,.inl ⟨rfl,rfl⟩⟩)⟩
def m1:o7.mul 4607182418800017408 vC=4602678819172646912:=Fv (s:=0) (t:=0) (k:=0) (j:=-1) (z:=4602678819172646912) de de de de de de de de ⟨-1,-1,4503599627370496,4503599627370496,0,de,.inr ⟨de,rfl⟩,de,de,de,.inr (.inr ⟨de,de,de,.inl ⟨rfl,rfl⟩⟩)⟩
def m2:o7.mul 4611686018427387904 vC=4607182418800017408:=Fv (s:=0) (t:=0) (k:=1) (j:=-1) (z:=4607182418800017408) de de de de de de de de ⟨0,0,4503599627370496,4503599627370496,0,de,.inr ⟨de,rfl⟩,de,de,de,.inr (.inr ⟨de,de,de,.inl ⟨rfl,rfl⟩⟩)⟩
def mh:o7.mul 4602678819172646912 vC=4598175219545276416:=Fv (s:=0) (t:=0) (k:=-1) (j:=-1) (z:=4598175219545276416) de de de de de de de de ⟨-2,-2,4503599627370496,4503599627370496,0,de,.inr ⟨de,rfl⟩,de,de,de,.inr (.inr ⟨de,de,de,.inl ⟨rfl,rfl⟩⟩)⟩
def mq:o7.mul 4598175219545276416 vC=4593671619917905920:=Fv (s:=0) (t:=0) (k:=-2) (j:=-1) (z:=4593671619917905920) de de de de de de de de ⟨-3,-3,4503599627370496,4503599627370496,0,de,.inr ⟨de,rfl⟩,de,de,de,.inr (.inr ⟨de,de,de,.inl ⟨rfl,rfl⟩⟩)⟩
def m0:o7.mul 0 vC=0:=by
 refine Fj (fl:=0) (.inl ⟨53,1023,4503599627370496,9218868437227405312,9223372036854775808,9221120237041090560,⟨0,0,0,0⟩,⟨1,0,-1-52,4503599627370496⟩,D9,⟨de,de⟩,.inl ⟨de,0,.inl ⟨rfl,rfl,de⟩,.inl ⟨rfl,rfl,rfl,rfl⟩⟩,(show sw 0 9223372036854775808 (4503599627370496*(-1+1023))=vC by decide)▸zK 0 (-1) de de de,?_⟩);exact .inl ⟨rfl,rfl,rfl⟩
def aPj(hx:Wo x)(h0:9223372036854775808<=x)(h1:x%9223372036854775808<=9218868437227405312):o7.fix (o7.mul x c32)=0:=by
 have aA9:∀{a:Int} {y:dM},9223372036854775808<=a->a%9223372036854775808<=9218868437227405312->aG a->aJ9 a y->y.s=1/\y.c<=2:=by
  intro a y a0 a1 a2 hy;rcases hy with⟨_,v,hs,hv⟩|⟨c,_⟩
  .rcases hs with⟨_,_,c⟩|⟨hs,rfl,_⟩
   .omega
   .refine⟨hs,?_⟩;rcases hv with⟨_,c,_⟩|⟨c,_⟩|⟨c,_⟩|⟨_,c,_⟩|⟨_,_,c,_⟩<;>omega
  .omega
 obtain⟨Z,fl,h⟩:=aGb hx (Wo.c c32);rw[Fj h];obtain⟨u,v,hu,hv,hp⟩:=aA8 h;obtain rfl:=hv.one D9 (zK 0 32 de de de);obtain⟨us,uc⟩:=aA9 h0 h1 hx.2 hu;have u0:=(bK D9 hu).1.c0;obtain⟨p1,p2,p3⟩:=Fe hp;have hpo:(uX 0 u ⟨1,0,32-52,4503599627370496⟩).s =1/\(uX 0 u ⟨1,0,32-52,4503599627370496⟩).c <=2:=by
  unfold uX bZ;have hm:mulS u.s 0=1:=by rw[us];decide
  dsimp only
  rw[if_neg om,if_neg om,hm]
  (repeat' split)<;>exact⟨rfl,by dsimp only;omega⟩
 have hZ:=p3 hpo.1 hpo.2;obtain⟨T,f,hT⟩:=Dp 1 2 3 Z p1.1 p1.2;rw[Sz hT];rcases hT with⟨p,mx,one,aI,sg,nan,y,hF,fF,hm,hk,hy,ho⟩|⟨_,rfl,_⟩
 .obtain⟨rfl,rfl,rfl,rfl,rfl,rfl⟩:=fmt7 hF;obtain⟨ys,yc⟩:=aA9 hZ (p2 hZ) p1.2 hy;have hmk:fH 3 y.s=0:=by rw[ys];decide
  have hw:∀M:Nat,M=0->kV y.s M=0:=by intro M hM;subst hM;unfold kV;simp
  rcases ho with⟨c,_⟩|⟨_,c,rfl,_⟩|⟨_,_,rfl,_⟩
  .omega
  .exact hw _ om
  .exact hw _ hmk
 .rfl
def aH2(ha:Wo a)(h0:a%9223372036854775808<=4787326403894837248)(h:fU 1 2 1 (o7.jW a) T fl):o7.whole (o7.jW a)=T:=by
 obtain⟨Z,f1,hZ⟩:=RU 1 4 a false ha.1 ha.2;rw[JX hZ]at h⊢
 rcases hZ with⟨p,mx,one,aI,sg,nan,x,hF,hm,hx,hp⟩|⟨p,mx,one,aI,sg,nan,hF,hm,_⟩|⟨c,_⟩
 .obtain⟨rfl,rfl,rfl,rfl,rfl,rfl⟩:=fmt7 hF;have xc:x.c<=1:=by
   rcases hx with⟨_,v,hs,hv⟩|⟨c,_⟩
   .have hvl:v<=4787326403894837248:=by rcases hs with⟨_,rfl,_⟩|⟨_,rfl,_⟩<;>have:=ha.1<;>have:=ha.2<;>omega
    rcases hv with⟨_,c,_⟩|⟨c,_⟩|⟨c,_⟩|⟨c,_⟩|⟨_,_,c,_⟩<;>omega
   .have:=ha.2;omega
  rcases hp with⟨c,_⟩|⟨_,hp,_⟩
  .omega
  obtain⟨⟨z0,z1,z2⟩,y,hy,yc,ys,hw,_⟩:=aFB ha.1 ha.2 D9 hx om hp;have y8:=(hw xc).2;rcases h with⟨p,mx,one,aI,sg,nan,y',mG,fF,I_,hk,hy',ho⟩|⟨c,_⟩
  .obtain⟨rfl,rfl,rfl,rfl,rfl,rfl⟩:=fmt7 mG;obtain rfl:=hy.one D9 hy';refine MB (fl:=fl) (.inl ⟨_,_,_,_,_,_,y,D9,fF,⟨de,de⟩,hk,hy,?_⟩);unfold vw at ho⊢
   rw[y8 2]at ho;rw[y8 0];exact ho
  .unfold XZ at c;omega
 .omega
 .omega
end
set_option maxRecDepth 1000000
def aKJ{P:Prop}(h:P:=by
 rcases hv with⟨_,c,_⟩|⟨_,_,c,_⟩|⟨_,c,_⟩|⟨_,c,_⟩|⟨_,_,c,_⟩<;>omega):P:=h
section
variable [Inhabited Ch]
def Yf(n:Int)(n0:-9223372036854775808<=n)(n1:n<=9223372036854775807)(w:World):
  QB 111 #[J n] w (Y (o7.int n)):=by
 have hf:=sU;have hw:IntKind.u64.wrap n=n%18446744073709551616:=IntKind.wrap_u64 n;have HA:Hid (∀w,CT 60 #[J 1,J 0,J 1,Y (n%18446744073709551616)] w λe w'=>∃fl:Int,e=O (aP (o7.int n) fl)/\Gb w w'):=λw=>(kF 1 0 1 _ (Int.emod_nonneg _ de) (Int.emod_lt_of_pos _ de) w).mono λe w' ⟨Z,fl,hp,he,hg⟩=>⟨fl,by rw[yU hp];exact he,hg⟩;generalize o7.int n=z at*
 generalize n%18446744073709551616=u at*
 go_enter func111,ntmps111;go_wp2_with (go_at_call 60;refine(HA _).mono ?_;rintro e w1 ⟨fl,rfl,ak⟩);go_returns;exact⟨rfl,kg⟩
def aI7(ha:Wo a)(hb:Wo b)(w:World):
  QB 127 #[Y a,Y b] w (Y (o7.sub a b)):=by
 have hf:=sU;have HA:Hid (∀w,CT 63 #[J 1,J 0,Y a,Y b] w λe w'=>∃fl:Int,e=O (aP (o7.sub a b) fl)/\Gb w w'):=λw=>(Gw 1 0 a b ha.1 ha.2 hb.1 hb.2 w).mono λe w' ⟨Z,fl,hp,he,hg⟩=>⟨fl,by rw[Sv hp];exact he,hg⟩;generalize o7.sub a b=z at*
 clear ha hb;go_enter func127,ntmps127;go_wp2_with (go_at_call 63;refine(HA _).mono ?_;rintro e w1 ⟨fl,rfl,ak⟩);go_returns;exact⟨rfl,kg⟩
def aH9(ha:Wo a)(hb:Wo b)(w:World):
  QB 112 #[Y a,Y b] w (Y (o7.mul a b)):=by
 have hf:=sU;have HA:Hid (∀w,CT 64 #[J 1,J 0,Y a,Y b] w λe w'=>∃fl:Int,e=O (aP (o7.mul a b) fl)/\Gb w w'):=λw=>(Gx 1 0 a b ha.1 ha.2 hb.1 hb.2 w).mono λe w' ⟨Z,fl,hp,he,hg⟩=>⟨fl,by rw[Fj hp];exact he,hg⟩;generalize o7.mul a b=z at*
 clear ha hb;go_enter func112,ntmps112;go_wp2_with (go_at_call 64;refine(HA _).mono ?_;rintro e w1 ⟨fl,rfl,ak⟩);go_returns;exact⟨rfl,kg⟩
def aQe(w:World):CT 66 #[J 1,J 0,Y 4607182418800017408,Y 4611686018427387904] w λe w'=>∃fl:Int,e=O (aP vC fl)/\Gb w w':=by
 refine(U8 D9 0 4607182418800017408 4611686018427387904 ⟨de,de⟩ de de de de (x:=⟨1,0,0-52,4503599627370496⟩) (y:=⟨1,0,1-52,4503599627370496⟩) (zK 0 0 de de de) (zK 0 1 de de de) rfl rfl w).mono ?_;rintro e w' ⟨Z,fl,hp,he,hg⟩;refine⟨fl,?_,hg⟩;have h1:oK 53 (1-1023) 1023 4503599627370496 9218868437227405312 9223372036854775808 9221120237041090560 0 ⟨1,0,-59,288230376151711744⟩ vC 0:=.inl (.inr (.inl ⟨rfl,4602678819172646912,⟨-1,-1,4503599627370496,4503599627370496,0,de,.inr ⟨de,rfl⟩,de,de,de,.inr (.inr ⟨de,de,de,.inl ⟨rfl,rfl⟩⟩)⟩,rfl⟩));have h2:=(oK.one hp h1).1;rw[he,h2]
def aNv(w:World):QB 113 #[] w (Y vC):=by
 have hf:=sU;have H1:KB 111 #[J 1] (Y 4607182418800017408):=λw=>by have:=Yf 1 de de w;rw[i1]at this;exact this
 have H2:KB 111 #[J 2] (Y 4611686018427387904):=λw=>by have:=Yf 2 de de w;rw[i2]at this;exact this
 have HA:Hid _:=aQe;go_enter func113,ntmps113;go_wp2_with (first|(go_at_call 111;first|(with_reducible refine ku (H1.out _) λw1 ak=>?_)|(with_reducible refine ku (H2.out _) λw2 aB=>?_))|(go_at_call 66;refine(HA _).mono ?_;rintro e w3 ⟨fl,rfl,aK⟩))
 go_returns;exact⟨rfl,kg⟩
def aOj(ha:Wo a):∃c s x g:Int,Unp a c s/\bP 1 a c s x g:=by
 have h0:=ha.1;have h1:=ha.2;obtain⟨x,hx⟩:=eu D9 a h0 h1;refine⟨x.c,x.s,x.e,((x.M:Nat):Int),?_,iH D9 a h0 om hx⟩;rcases hx with⟨_,v,hs,hv⟩|⟨c,_⟩
 .have hva:v=a%9223372036854775808:=om;refine⟨om,?_,?_,om⟩
  .exact aKJ
  .exact aKJ
 .omega
def aRD:o7.S where
 word:=λn n0 n1 w=>Yf n n0 n1 w
 minus:=λa b ha hb w=>aI7 ha hb w
 times:=λa b ha hb w=>aH9 ha hb w
 half:=aNv
 aG6:=λw=>(kF 1 0 3 _ de de w).mono λe w' ⟨Z,fl,hp,he,hg⟩=>⟨fl,by rw[<-(gQ.one hp f32).1];exact he,hg⟩
 aG5:=λw=>(kF 1 0 3 _ de de w).mono λe w' ⟨Z,fl,hp,he,hg⟩=>⟨fl,by rw[<-(gQ.one hp f63).1];exact he,hg⟩
 unp:=aOj
 order:=λa b ha hb w=>DV 1 a b _ _ 9223372036854775808 _ (λw=>jZ D9 w) de rfl rfl rfl w
 jW:=λa ha w=>(vO 1 4 a false ha.1 ha.2 w).mono λe w' ⟨Z,fl,hp,he,hg⟩=>⟨fl,by rw[JX hp];exact he,hg⟩
 fix:=λa ha w=>(qF 1 2 3 a ha.1 ha.2 w).mono λe w' ⟨Z,fl,hp,he,hg⟩=>⟨fl,by rw[Sz hp];exact he,hg⟩
 whole:=λa ha w=>(qF 1 0 1 a ha.1 ha.2 w).mono λe w' ⟨Z,fl,hp,he,hg⟩=>⟨fl,by rw[MB hp];exact he,hg⟩
 k1:=by rw[aRK];exact aRG
 k2:=by rw[i41];exact m41
 k3:=by rw[i1];exact m1
 k4:=by rw[i2];exact m2
 k5:=by rw[i0];exact m0
 k6:=mh
 k7:=mq
 neg:=aPj
def aH1(n:Int)(n0:-9223372036854775808<=n)(n1:n<=9223372036854775807)(hw:Fm w):
  QR 276 #[J n] w (Y (o7.int n)):=by
 have hf:=sU;have hwr:IntKind.u64.wrap n=n%18446744073709551616:=IntKind.wrap_u64 n;have HA:Hid (CT 92 #[J 1,J 0,J 1,Y (n%18446744073709551616)] w λe w'=>∃fl:Int,e=O (aP (o7.int n) fl)/\Gr w w'):=(rF 1 0 1 _ (Int.emod_nonneg _ de) (Int.emod_lt_of_pos _ de) w hw).mono λe w' ⟨Z,fl,hp,he,hg⟩=>⟨fl,by rw[yU hp];exact he,hg⟩;generalize o7.int n=z at*
 generalize n%18446744073709551616=u at*
 clear hw;go_enter func276,ntmps276;go_wp2_with (go_at_call 92;refine HA.out.mono ?_;rintro e w1 ⟨fl,rfl,ak⟩);go_returns;exact⟨rfl,kr⟩
def aGe(ha:Wo a)(hb:Wo b)(hw:Fm w):
  QR 200 #[Y a,Y b] w (Y (o7.sub a b)):=by
 have hf:=sU;have HA:Hid (CT 27 #[J 1,J 0,Y a,Y b] w λe w'=>∃fl:Int,e=O (aP (o7.sub a b) fl)/\Gr w w'):=(I7 1 0 a b ha.1 ha.2 hb.1 hb.2 w hw).mono λe w' ⟨Z,fl,hp,he,hg⟩=>⟨fl,by rw[Sv hp];exact he,hg⟩;generalize o7.sub a b=z at*
 clear ha hb hw;go_enter func200,ntmps200;go_wp2_with (go_at_call 27;refine HA.out.mono ?_;rintro e w1 ⟨fl,rfl,ak⟩);go_returns;exact⟨rfl,kr⟩
def aES(ha:Wo a)(hb:Wo b)(hw:Fm w):
  QR 201 #[Y a,Y b] w (Y (o7.mul a b)):=by
 have hf:=sU;have HA:Hid (CT 28 #[J 1,J 0,Y a,Y b] w λe w'=>∃fl:Int,e=O (aP (o7.mul a b) fl)/\Gr w w'):=(I8 1 0 a b ha.1 ha.2 hb.1 hb.2 w hw).mono λe w' ⟨Z,fl,hp,he,hg⟩=>⟨fl,by rw[Fj hp];exact he,hg⟩;generalize o7.mul a b=z at*
 clear ha hb hw;go_enter func201,ntmps201;go_wp2_with (go_at_call 28;refine HA.out.mono ?_;rintro e w1 ⟨fl,rfl,ak⟩);go_returns;exact⟨rfl,kr⟩
def aNC(ha:Wo a)(hw:Fm w):
  QR 202 #[Y a] w (Y (o7.fix a)):=by
 have hf:=sU;have HA:Hid (CT 94 #[J 1,J 2,J 3,Y a] w λe w'=>∃fl:Int,e=O (aP (o7.fix a) fl)/\Gr w w'):=(qJ 1 2 3 a ha.1 ha.2 w hw).mono λe w' ⟨Z,fl,hp,he,hg⟩=>⟨fl,by rw[Sz hp];exact he,hg⟩;generalize o7.fix a=z at*
 clear ha hw;go_enter func202,ntmps202;go_wp2_with (go_at_call 94;refine HA.out.mono ?_;rintro e w1 ⟨fl,rfl,ak⟩);go_returns;exact⟨rfl,kr⟩
def aRE:o7.I where
 word:=λn n0 n1 w hw=>aH1 n n0 n1 hw
 minus:=λa b ha hb w hw=>aGe ha hb hw
 times:=λa b ha hb w hw=>aES ha hb hw
 fix:=λa ha w hw=>aNC ha hw
 jW:=λa ha w hw=>(wF 1 4 a false ha.1 ha.2 w hw).mono λe w' ⟨Z,fl,hp,he,hg⟩=>⟨fl,by rw[JX hp];exact he,hg⟩
 whole:=λa ha h0 w hw=>(qJ 1 2 1 (o7.jW a) (aBa.jW ha).1 (aBa.jW ha).2 w hw).mono λe w' ⟨Z,fl,hp,he,hg⟩=>⟨fl,by rw[aH2 ha h0 hp];exact he,hg⟩
def aFb{o:O7}(H:o.S)(HI:o.In)(hm:Wo mu)(hi:Wo inv)(hs:Wo scale)(s:ByteArray)(hz:s.size<=1048576)(w:World):
  CT 56 #[Y mu,Y inv,Y scale,.string s] w λe w'=>∃r,o.lT mu inv scale s r/\e=O (O1 r)/\Gb w w':=by
 by_cases c:s.size<=20000/\isC mu inv scale=true
 .exact(RG H HI hm hi hs s c.1 c.2 w).mono λe w' ⟨r,h1,h2,h3⟩=>⟨r,by unfold O7.lT;rw[if_pos c];exact h1,h2,h3⟩
 .exact(Vj H HI hm hi hs s hz c w).mono λe w' ⟨h1,h2⟩=>⟨_,by unfold O7.lT;rw[if_neg c],h1,h2⟩
def aFd{o:O7}(H:o.I)(HI:o.In)(hm:Wo mu)(hi:Wo inv)(hs:Wo scale)(s:ByteArray)(hz:s.size<=1048576)(hw:Fm w)(hT:Tl w)(hD:Dc w):
  CT 105 #[Y mu,Y inv,Y scale,.string s] w λe w'=>∃r,o.lT mu inv scale s r/\e=O (O1 r)/\Gr w w':=by
 by_cases c:s.size<=20000/\isC mu inv scale=true
 .exact(RH H HI hm hi hs s c.1 c.2 hw hT hD).mono λe w' ⟨r,h1,h2,h3⟩=>⟨r,by unfold O7.lT;rw[if_pos c];exact h1,h2,h3⟩
 .exact(Vk hm hi hs s hz c hw).mono λe w' ⟨h1,h2⟩=>⟨_,by unfold O7.lT;rw[if_neg c],h1,h2⟩
end
