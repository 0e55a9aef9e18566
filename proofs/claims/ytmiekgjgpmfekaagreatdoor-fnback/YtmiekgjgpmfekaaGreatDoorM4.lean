import Derived.Test.YtmiekgjgpmfekaaGreatDoorM0
import Derived.Test.YtmiekgjgpmfekaaGreatDoorM7
import Derived.Test.YtmiekgjgpmfekaaGreatDoorM9
set_option linter.all false
open Go.Value renaming int → J
open Go.Ending renaming returned → Y
namespace Go.Proofs.YtmiekgjgpmfekaaGreatDoor
open Go.RowKit
variable{fl Z f a b p mx one inf sg nan mode s e z kind n:Int}{M:Nat}
theorem Fg(p mn mx md:Int)(k:Nat)(x y:bZ)(hx:VO x)(hy:VO y)(h2:max x.c y.c<3)(w:World):
  CT 180 #[dP p mn mx md k,aU x.s x.e x.c (((x.M/18446744073709551616:Nat):Int)) (((x.M%18446744073709551616:Nat):Int)) false 0,aU y.s y.e y.c (((y.M/18446744073709551616:Nat):Int)) (((y.M%18446744073709551616:Nat):Int)) false 0] w fun e w'=>∃os oe oc oh ol ot,pU (gI md x (jQ y)) os oe oc oh ol ot/\e=Y (aU os oe oc oh ol ot 0)/\Gr w w':=
 Fh p mn mx md k _ _ _ _ _ _ _ _ _ _ _ _ (1-y.s) (by rcases hy.jF with e|e<;>rw[e]<;>decide+kernel) _ (fun w=>sum_any p mn mx md k x (jQ y) hx hy.turn h2 w) w
theorem sV(p mn mx md:Int)(k:Nat)(x y:bZ)(hx:VO x)(hy:VO y)(w:World):
  CT 90 #[dP p mn mx md k,.func (.func 180) #[] #[],aU x.s x.e x.c (((x.M/18446744073709551616:Nat):Int)) (((x.M%18446744073709551616:Nat):Int)) false 0,aU y.s y.e y.c (((y.M/18446744073709551616:Nat):Int)) (((y.M%18446744073709551616:Nat):Int)) false 0] w fun e w'=>∃os oe oc oh ol ot,pU (gI md x (jQ y)) os oe oc oh ol ot/\e=Y (aU os oe oc oh ol ot 0)/\Gr w w':=by
 by_cases h:3<=max x.c y.c
 ·refine(iK p mn mx md k _ _ _ _ _ _ _ _ _ _ _ _ 180 _ rfl h w).mono ?_;rintro r w' ⟨rfl,hg⟩;have:=hx.c4;have:=hy.c4;rw[qJ md x (jQ y) h];exact⟨_,_,_,_,_,_,MP _ h (show max x.c y.c<=4 by omega),rfl,hg⟩
 ·exact yu p mn mx md k _ _ _ _ _ _ _ _ _ _ _ _ _ rfl om _ (fun w=>Fg p mn mx md k x y hx hy om w) w
def wM(mode:Int)(x y:bZ):bZ:=gI mode x (jQ y)
theorem BQ(f mode a b:Int)(a0:0<=a)(a1:a<18446744073709551616)(b0:0<=b)(b1:b<18446744073709551616)(w:World)(hw:Fm w):
  CT 134 #[J .i64 f,J .i64 mode,J .u64 a,J .u64 b] w fun e w'=>∃Z fl,pX wM f mode a b Z fl/\e=Y (aK Z fl)/\Gr w w':=by
 refine QZ f mode a b (pX wM f mode a b) (fun w' hg=>?_);have hw':=hw.gr hg;by_cases hf:f=0\/f=1
 ·obtain⟨p,mx,one,inf,sg,nan,hF⟩:=iC f hf;obtain⟨mn,fb,sp,hM,hmn,hfb⟩:=hF.m;by_cases hm:0<=mode/\mode<=4
  ·obtain⟨k,hk⟩:=kH mode hm.1 hm.2;obtain⟨x,hx,HA⟩:=lI hF hM a a0 a1;obtain⟨y,hy,HB⟩:=lI hF hM b b0 b1;obtain⟨v1,v2,v3,v4,v5,v6⟩:=bQ hF hx;obtain⟨u1,u2,u3,u4,u5,u6⟩:=bQ hF hy;refine(JK p mn mx mode f k 180 a b _ _ _ _ _ _ _ _ _ _ _ _ (fun w'' hg'=>eP hF hM mode k (fun w=>gW mode k hk w) (hw'.gr hg')) HA HB (pU (wM mode x y)) (fun w=>sV p mn mx mode k x y v1 u1 w) (bW p mn mx one inf sg nan mode (wM mode x y)) (fun os oe oc oh ol ot w hq=>uI hM mode k hk _ os oe oc oh ol ot hq w)).mono ?_;rintro e w'' ⟨Z,fl,hp,rfl,hg'⟩;rw[hmn]at hp;exact⟨_,_,.inl ⟨p,mx,one,inf,sg,nan,x,y,hF,hm,hx,hy,hp⟩,rfl,hg'⟩
  ·refine(jV p mn mx mode nan f mode a b (fun w'' hg'=>gK hF hM mode (fun w=>kD mode om w) (hw'.gr hg')) (fun w=>dH hM w) 180).mono ?_;rintro e w'' ⟨rfl,hg'⟩;exact⟨_,_,.inr (.inl ⟨p,mx,one,inf,sg,nan,hF,om,rfl,rfl⟩),rfl,hg'⟩
 ·refine(jV _ _ _ _ _ f mode a b (fun w'' hg'=>fU f mode hf (hw'.gr hg')) (fun w=>dH m64 w) 180).mono ?_;rintro e w'' ⟨rfl,hg'⟩;exact⟨_,_,.inr (.inr ⟨hf,rfl,rfl⟩),rfl,hg'⟩
theorem DN(h:aP f p mx one inf sg nan)(b z:Int)(b0:0<=b)(hb:b<2*sg)(hz:b<sg/\z=b+sg\/sg<=b/\z=b-sg){y:bZ}(hy:bP p mx one inf sg nan b y):0<=z/\z<2*sg/\bP p mx one inf sg nan z (jQ y):=by
 have hbd:=h.bounds;rcases hy with⟨_,v,hs,hc⟩|⟨c,_⟩
 ·refine⟨om,om,.inl ⟨om,v,?_,hc⟩⟩;unfold jQ;dsimp only
  rcases hs with⟨s0,rfl,s1⟩|⟨s0,rfl,s1⟩
  ·rw[s0];exact .inr ⟨om,om,om⟩
  ·rw[s0];exact .inl ⟨om,om,om⟩
 ·exfalso;omega
theorem O6(h:aP f p mx one inf sg nan)(mode a b:Int)(hm:0<=mode/\mode<=4)(a0:0<=a)(a1:a<18446744073709551616)(b0:0<=b)(b1:b<18446744073709551616){x y:bZ}(hx:bP p mx one inf sg nan a x)(hy:bP p mx one inf sg nan b y)(w:World):
  CT 124 #[J .i64 f,J .i64 mode,J .u64 a,J .u64 b] w fun e w'=>∃Z fl,bW p (1-mx) mx one inf sg nan mode (wM mode x y) Z fl/\e=Y (aK Z fl)/\Gb w w':=by
 have hbd:=h.bounds;by_cases hfit:a<2*sg/\b<2*sg
 ·obtain⟨fa,WS⟩:=hfit;obtain⟨z,hz⟩:∃z,b<sg/\z=b+sg\/sg<=b/\z=b-sg:=by
   by_cases c:b<sg
   ·exact⟨_,.inl ⟨c,rfl⟩⟩
   ·exact⟨_,.inr ⟨om,rfl⟩⟩
  obtain⟨z0,z1,hz2⟩:=DN h b z b0 WS hz hy;exact aBa f mode a b z (fun w=>iU h mode a b hm.1 hm.2 a0 fa b0 WS w) (fun w=>zn h b z b0 WS hz w) _ (fun w=>D7 h mode a z hm a0 a1 z0 om hx hz2 w) w
 ·refine(Ef f mode a b (fun w=>eu f mode a b a0 a1 b0 b1 (qQ h a1 b1 om) w) nan 1 (fun w=>dI h w) w).mono ?_;rintro e w' ⟨rfl,hg⟩;refine⟨_,_,?_,rfl,hg⟩;obtain⟨v1,_⟩:=bQ h hx;obtain⟨u1,_⟩:=bQ h hy;have Ui:=v1.c4;have yc4:=u1.c4;have:max x.c (jQ y).c =4:=by
   show max x.c y.c=4;rcases(show 2*sg<=a\/2*sg<=b by omega)with c|c
   ·have:=qO h hx c;subst this;dsimp only at*;omega
   ·have:=qO h hy c;subst this;dsimp only at*;omega
  unfold wM;rw[qJ mode x (jQ y) (by omega)];exact l9 this
theorem BF(f mode a b:Int)(a0:0<=a)(a1:a<18446744073709551616)(b0:0<=b)(b1:b<18446744073709551616)(w:World):
  CT 124 #[J .i64 f,J .i64 mode,J .u64 a,J .u64 b] w fun e w'=>∃Z fl,pX wM f mode a b Z fl/\e=Y (aK Z fl)/\Gb w w':=by
 by_cases hf:f=0\/f=1
 ·obtain⟨p,mx,one,inf,sg,nan,hF⟩:=iC f hf;by_cases hm:0<=mode/\mode<=4
  ·obtain⟨x,hx⟩:=fE hF a a0 a1;obtain⟨y,hy⟩:=fE hF b b0 b1;refine(O6 hF mode a b hm a0 a1 b0 b1 hx hy w).mono ?_;rintro e w' ⟨Z,fl,hp,rfl,hg⟩;exact⟨_,_,.inl ⟨p,mx,one,inf,sg,nan,x,y,hF,hm,hx,hy,hp⟩,rfl,hg⟩
  ·refine(Ef f mode a b (fun w=>eu f mode a b a0 a1 b0 b1 (.inl om) w) nan 1 (fun w=>dI hF w) w).mono ?_;rintro e w' ⟨rfl,hg⟩;exact⟨_,_,.inr (.inl ⟨p,mx,one,inf,sg,nan,hF,om,rfl,rfl⟩),rfl,hg⟩
 ·refine(Ef f mode a b (fun w=>eu f mode a b a0 a1 b0 b1 (.inr (.inl hf)) w) _ 1 (fun w=>oC f hf w) w).mono ?_;rintro e w' ⟨rfl,hg⟩;exact⟨_,_,.inr (.inr ⟨hf,rfl,rfl⟩),rfl,hg⟩
theorem qK(f mode a b:Int)(a0:0<=a)(a1:a<18446744073709551616)(b0:0<=b)(b1:b<18446744073709551616):
  ∃Z fl:Int,pX wM f mode a b Z fl/\(∀w,QB 124 #[J .i64 f,J .i64 mode,J .u64 a,J .u64 b] w (aK Z fl))/\
   (∀w,Fm w->QR 134 #[J .i64 f,J .i64 mode,J .u64 a,J .u64 b] w (aK Z fl)):=
 JL wM 124 134 (fun mode x y hx hy _ _ _ _ _ _=>XP mode x (jQ y) hx hy.turn) f mode a b a0 a1 b0 b1 (BF f mode a b a0 a1 b0 b1) (BQ f mode a b a0 a1 b0 b1)
theorem aGh{b:Bool}(h:aP f p mx one inf sg nan)(hr:aO p (1-mx) mx one inf mode s M e b z fl):0<=z/\z<sg:=by
 have hb:=h.bounds;obtain⟨top,E,r,r2,hf,h1,h2,h3,h4,h5,h6⟩:=hr;have hov:gu inf mode s=inf\/gu inf mode s=inf-1:=by unfold gu;split<;>simp
 have hE:0<=one*(E-(1-mx)):=Int.mul_nonneg om om;rcases h6 with⟨_,rfl,_⟩|⟨_,_,rfl,_⟩|⟨_,h7,rfl,_⟩
 ·omega
 ·omega
 ·generalize one*(E-(1-mx))=Q at*
  omega
theorem YJ{o:bZ}(h:aP f p mx one inf sg nan)(hp:bW p (1-mx) mx one inf sg nan mode o Z fl):Wd Z:=by
 have hb:=h.bounds;have hsg:2*sg<=18446744073709551616:=by
  rcases h with⟨_,_,_,_,_,rfl,_⟩|⟨_,_,_,_,_,rfl,_⟩<;>omega
 have hsw:∀z,0<=z->z<sg->Wd (sw o.s sg z):=by
  intro z z0 z1;unfold sw Wd;split<;>omega
 rcases hp with⟨_,rfl,_⟩|⟨_,z,hz,rfl⟩|⟨_,rfl,_⟩|⟨_,rfl,_⟩|⟨_,rfl,_⟩
 ·exact hsw 0 om om
 ·have:=aGh h hz;exact hsw z this.1 this.2
 ·exact hsw inf om om
 ·unfold Wd;omega
 ·unfold Wd;omega
theorem Qu(h:aP f p mx one inf sg nan):Wd nan:=by
 rcases h with⟨_,_,_,_,_,_,rfl⟩|⟨_,_,_,_,_,_,rfl⟩<;>(unfold Wd;omega)
theorem pX.wd{R:Int->bZ->bZ->bZ}(h:pX R f mode a b Z fl):Wd Z:=by
 rcases h with⟨p,mx,one,inf,sg,nan,x,y,hF,hm,hx,hy,hp⟩|⟨p,mx,one,inf,sg,nan,hF,hm,rfl,rfl⟩|⟨hF,rfl,rfl⟩
 ·exact YJ hF hp
 ·exact Qu hF
 ·unfold Wd;omega
theorem lS.wd{R:Int->Int->bZ->bZ->bZ}(h:lS R f mode a b Z fl):Wd Z:=by
 rcases h with⟨p,mx,one,inf,sg,nan,x,y,hF,hm,hx,hy,hp⟩|⟨p,mx,one,inf,sg,nan,hF,hm,rfl,rfl⟩|⟨hF,rfl,rfl⟩
 ·rcases hp with hp|⟨_,rfl,_⟩
  ·exact YJ hF hp
  ·have hb:=hF.bounds;rcases hF with⟨_,_,_,_,rfl,rfl,_⟩|⟨_,_,_,_,rfl,rfl,_⟩<;>(unfold Wd sw;split<;>omega)
 ·exact Qu hF
 ·unfold Wd;omega
theorem dU.wd(h:dU f mode kind a Z fl):Wd Z:=by
 rcases h with⟨p,mx,one,inf,sg,nan,hF,hm,hk,hp⟩|⟨p,mx,one,inf,sg,nan,hF,hm,rfl,rfl⟩|⟨hF,rfl,rfl⟩
 ·exact YJ hF hp
 ·exact Qu hF
 ·unfold Wd;omega
theorem f64:aP 1 53 1023 4503599627370496 9218868437227405312 9223372036854775808 9221120237041090560:=.inr ⟨rfl,rfl,rfl,rfl,rfl,rfl,rfl⟩
theorem Fa(n:Nat)(h0:0<n)(h1:n<1000)(z:Int)(hz:aO 53 (1-1023) 1023 4503599627370496 9218868437227405312 0 0 n 0 false z 0):dU 1 0 1 (n:Int) z 0:=by
 have hs:cu 1 (n:Int)=0:=by unfold cu;rw[if_neg (by omega)]
 have hM:d_ 1 (n:Int)=n:=by unfold d_;rw[if_neg (by omega)];omega
 refine .inl ⟨53,1023,4503599627370496,9218868437227405312,9223372036854775808,9221120237041090560,f64,⟨om,om⟩,?_,?_⟩
 ·unfold dZ;rw[hs,hM,show bG 1 0=9223372036854775807 by decide];exact decide_eq_true om
 ·unfold ql;rw[hs,hM,if_neg (by omega)];exact .inr (.inl ⟨rfl,z,hz,rfl⟩)
theorem aE0:dU 1 0 1 1 4607182418800017408 0:=Fa 1 de de _ ⟨0,0,4503599627370496,4503599627370496,0,de,.inr ⟨de,rfl⟩,de,de,de,.inr (.inr ⟨de,de,de,.inl ⟨rfl,rfl⟩⟩)⟩
theorem aEl:dU 1 0 1 2 4611686018427387904 0:=Fa 2 de de _ ⟨1,1,4503599627370496,4503599627370496,0,de,.inr ⟨de,rfl⟩,de,de,de,.inr (.inr ⟨de,de,de,.inl ⟨rfl,rfl⟩⟩)⟩
theorem aBV:lS divO 1 0 4607182418800017408 4611686018427387904 4602678819172646912 0:=by
 refine .inl ⟨53,1023,4503599627370496,9218868437227405312,9223372036854775808,9221120237041090560,⟨1,0,-52,4503599627370496⟩,⟨1,0,-51,4503599627370496⟩,f64,⟨om,om⟩,?_,?_,.inl ?_⟩
 ·exact .inl ⟨de,4607182418800017408,.inl ⟨rfl,rfl,de⟩,.inr (.inr (.inr (.inr ⟨de,de,rfl,0,4503599627370496,-52,.inr ⟨de,de,de⟩,de,de,de,de⟩)))⟩
 ·exact .inl ⟨de,4611686018427387904,.inl ⟨rfl,rfl,de⟩,.inr (.inr (.inr (.inr ⟨de,de,rfl,0,4503599627370496,-51,.inr ⟨de,de,de⟩,de,de,de,de⟩)))⟩
 ·have e:divO 53 0 ⟨1,0,-52,4503599627370496⟩ ⟨1,0,-51,4503599627370496⟩=⟨1,0,-59,288230376151711744⟩:=by
   unfold divO;rw[if_neg de,if_neg de,if_neg de,if_neg de,if_pos (by decide)];rfl
  rw[e];exact .inr (.inl ⟨rfl,4602678819172646912,⟨-1,-1,4503599627370496,4503599627370496,0,de,.inr ⟨de,rfl⟩,de,de,de,.inr (.inr ⟨de,de,de,.inl ⟨rfl,rfl⟩⟩)⟩,rfl⟩)
section
variable [Inhabited Ch]
def Iz(a b:Int):Int:=pick (pX gI 1 0 a b)
def OW(a b:Int):Int:=pick (pX wM 1 0 a b)
def KF(a b:Int):Int:=pick (pX oq 1 0 a b)
def OX(a b:Int):Int:=pick (lS divO 1 0 a b)
def GH(a:Int):Int:=pick (lS kC 1 0 a a)
theorem sF(h:pX gI 1 0 a b Z fl):Iz a b=Z:=jJ pX.one h
theorem yJ(h:pX wM 1 0 a b Z fl):OW a b=Z:=jJ pX.one h
theorem vO(h:pX oq 1 0 a b Z fl):KF a b=Z:=jJ pX.one h
theorem yL(h:lS divO 1 0 a b Z fl):OX a b=Z:=jJ lS.one h
theorem yK(h:lS kC 1 0 a a Z fl):GH a=Z:=jJ lS.one h
def KG(n:Int):Int:=pick (dU 1 0 1 (n%18446744073709551616))
theorem vS(h:dU 1 0 1 (n%18446744073709551616) Z fl):KG n=Z:=jJ dU.one h
def cZ:Ops:=⟨KG,Iz,OW,KF,OX,GH⟩
theorem lZ:cZ.In where
 int n:=by obtain⟨Z,fl,h⟩:=Du 1 0 1 (n%18446744073709551616);show Wd (KG n);rw[vS h];exact h.wd
 add ha hb:=by obtain⟨Z,fl,h,h1,h2⟩:=add_same 1 0 _ _ ha.1 ha.2 hb.1 hb.2;show Wd (Iz _ _);rw[sF h];exact h.wd
 sub ha hb:=by obtain⟨Z,fl,h,h1,h2⟩:=qK 1 0 _ _ ha.1 ha.2 hb.1 hb.2;show Wd (OW _ _);rw[yJ h];exact h.wd
 mul ha hb:=by obtain⟨Z,fl,h,h1,h2⟩:=qU 1 0 _ _ ha.1 ha.2 hb.1 hb.2;show Wd (KF _ _);rw[vO h];exact h.wd
 div ha hb:=by obtain⟨Z,fl,h,h1,h2⟩:=Fe 1 0 _ _ ha.1 ha.2 hb.1 hb.2;show Wd (OX _ _);rw[yL h];exact h.wd
 sqrt ha:=by obtain⟨Z,fl,h,h1,h2⟩:=Aa 1 0 _ ha.1 ha.2;show Wd (GH _);rw[yK h];exact h.wd
theorem EG:cZ.S where
 one:=vS (n:=1) aE0
 half:=by
  have h2:KG 2=4611686018427387904:=vS (n:=2) aEl;show OX _ (KG 2)=_;rw[h2];exact yL aBV
 int n u n0 n1 hu:=by
  subst hu;intro w;have h0:0<=n%18446744073709551616:=Int.emod_nonneg _ om;have h1:n%18446744073709551616<18446744073709551616:=Int.emod_lt_of_pos _ om;refine(g_ 1 0 1 (n%18446744073709551616) h0 h1 w).mono ?_;rintro e w' ⟨Z,fl,hp,he,hg⟩;exact⟨fl,by rw[show cZ.int n=Z from vS hp];exact he,hg⟩
 add ha hb:=by obtain⟨Z,fl,h,h1,h2⟩:=add_same 1 0 _ _ ha.1 ha.2 hb.1 hb.2;intro w;show Calls _ _ _ _ (fun e w'=>∃fl,e=Y (.agg #[J .u64 (Iz _ _),_])/\_);rw[sF h];exact(h1 w).mono fun e w' h=>⟨fl,h⟩
 sub ha hb:=by obtain⟨Z,fl,h,h1,h2⟩:=qK 1 0 _ _ ha.1 ha.2 hb.1 hb.2;intro w;show Calls _ _ _ _ (fun e w'=>∃fl,e=Y (.agg #[J .u64 (OW _ _),_])/\_);rw[yJ h];exact(h1 w).mono fun e w' h=>⟨fl,h⟩
 mul ha hb:=by obtain⟨Z,fl,h,h1,h2⟩:=qU 1 0 _ _ ha.1 ha.2 hb.1 hb.2;intro w;show Calls _ _ _ _ (fun e w'=>∃fl,e=Y (.agg #[J .u64 (KF _ _),_])/\_);rw[vO h];exact(h1 w).mono fun e w' h=>⟨fl,h⟩
 div ha hb:=by obtain⟨Z,fl,h,h1,h2⟩:=Fe 1 0 _ _ ha.1 ha.2 hb.1 hb.2;intro w;show Calls _ _ _ _ (fun e w'=>∃fl,e=Y (.agg #[J .u64 (OX _ _),_])/\_);rw[yL h];exact(h1 w).mono fun e w' h=>⟨fl,h⟩
 sqrt ha:=by obtain⟨Z,fl,h,h1,h2⟩:=Aa 1 0 _ ha.1 ha.2;intro w;show Calls _ _ _ _ (fun e w'=>∃fl,e=Y (.agg #[J .u64 (GH _),_])/\_);rw[yK h];exact(h1 w).mono fun e w' h=>⟨fl,h⟩
theorem Je:cZ.I where
 add ha hb:=by obtain⟨Z,fl,h,h1,h2⟩:=add_same 1 0 _ _ ha.1 ha.2 hb.1 hb.2;intro w hw;show Calls _ _ _ _ (fun e w'=>∃fl,e=Y (.agg #[J .u64 (Iz _ _),_])/\_);rw[sF h];exact(h2 w hw).mono fun e w' h=>⟨fl,h⟩
 sub ha hb:=by obtain⟨Z,fl,h,h1,h2⟩:=qK 1 0 _ _ ha.1 ha.2 hb.1 hb.2;intro w hw;show Calls _ _ _ _ (fun e w'=>∃fl,e=Y (.agg #[J .u64 (OW _ _),_])/\_);rw[yJ h];exact(h2 w hw).mono fun e w' h=>⟨fl,h⟩
 mul ha hb:=by obtain⟨Z,fl,h,h1,h2⟩:=qU 1 0 _ _ ha.1 ha.2 hb.1 hb.2;intro w hw;show Calls _ _ _ _ (fun e w'=>∃fl,e=Y (.agg #[J .u64 (KF _ _),_])/\_);rw[vO h];exact(h2 w hw).mono fun e w' h=>⟨fl,h⟩
 div ha hb:=by obtain⟨Z,fl,h,h1,h2⟩:=Fe 1 0 _ _ ha.1 ha.2 hb.1 hb.2;intro w hw;show Calls _ _ _ _ (fun e w'=>∃fl,e=Y (.agg #[J .u64 (OX _ _),_])/\_);rw[yL h];exact(h2 w hw).mono fun e w' h=>⟨fl,h⟩
 sqrt ha:=by obtain⟨Z,fl,h,h1,h2⟩:=Aa 1 0 _ ha.1 ha.2;intro w hw;show Calls _ _ _ _ (fun e w'=>∃fl,e=Y (.agg #[J .u64 (GH _),_])/\_);rw[yK h];exact(h2 w hw).mono fun e w' h=>⟨fl,h⟩
end
