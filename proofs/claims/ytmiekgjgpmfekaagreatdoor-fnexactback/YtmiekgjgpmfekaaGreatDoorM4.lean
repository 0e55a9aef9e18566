import Derived.Test.YtmiekgjgpmfekaaGreatDoorM0
import Derived.Test.YtmiekgjgpmfekaaGreatDoorM7
import Derived.Test.YtmiekgjgpmfekaaGreatDoorM9
import Derived.Test.YtmiekgjgpmfekaaGreatDoorN5
set_option linter.all false
open Go.Proofs.YtmiekgjgpmfekaaGreatDoor renaming vI → J, vU → Y
open Go.Ending renaming returned → O
open Go.Proofs.Tryz
namespace Go.Proofs.YtmiekgjgpmfekaaGreatDoor
open Go.RowKit
variable{a fl Z b mode f p mx one inf sg nan s z kind n e mu inv scale t k j x T:Int}{w:World}{M:Nat}{ex:Bool}
theorem FP(p mn mx md:Int)(k:Nat)(x y:cu)(hx:VO x)(hy:VO y)(h2:max x.c y.c<3)(w:World):
  CT 180 #[dP p mn mx md k,aV x.s x.e x.c (((x.M/18446744073709551616:Nat):Int)) (((x.M%18446744073709551616:Nat):Int)) false 0,aV y.s y.e y.c (((y.M/18446744073709551616:Nat):Int)) (((y.M%18446744073709551616:Nat):Int)) false 0] w fun e w'=>∃os oe oc oh ol ot,qC (gQ md x (jX y)) os oe oc oh ol ot/\e=O (aV os oe oc oh ol ot 0)/\Gr w w':=
 FQ p mn mx md k _ _ _ _ _ _ _ _ _ _ _ _ (1-y.s) (by rcases hy.jL with e|e<;>rw[e]<;>decide+kernel) _ (fun w=>sum_any p mn mx md k x (jX y) hx hy.turn h2 w) w
theorem uz(p mn mx md:Int)(k:Nat)(x y:cu)(hx:VO x)(hy:VO y)(w:World):
  CT 90 #[dP p mn mx md k,.func (.func 180) #[] #[],aV x.s x.e x.c (((x.M/18446744073709551616:Nat):Int)) (((x.M%18446744073709551616:Nat):Int)) false 0,aV y.s y.e y.c (((y.M/18446744073709551616:Nat):Int)) (((y.M%18446744073709551616:Nat):Int)) false 0] w fun e w'=>∃os oe oc oh ol ot,qC (gQ md x (jX y)) os oe oc oh ol ot/\e=O (aV os oe oc oh ol ot 0)/\Gr w w':=by
 by_cases h:3<=max x.c y.c
 ·refine(iR p mn mx md k _ _ _ _ _ _ _ _ _ _ _ _ 180 _ rfl h w).mono ?_;rintro r w' ⟨rfl,hg⟩;have:=hx.c4;have:=hy.c4;rw[rF md x (jX y) h];exact⟨_,_,_,_,_,_,NK _ h (show max x.c y.c<=4 by omega),rfl,hg⟩
 ·exact yV p mn mx md k _ _ _ _ _ _ _ _ _ _ _ _ _ rfl om _ (fun w=>FP p mn mx md k x y hx hy om w) w
def xI(mode:Int)(x y:cu):cu:=gQ mode x (jX y)
theorem CS(f mode a b:Int)(a0:0<=a)(a1:a<18446744073709551616)(b0:0<=b)(b1:b<18446744073709551616)(w:World)(hw:Fm w):
  CT 134 #[J f,J mode,Y a,Y b] w fun e w'=>∃Z fl,qG xI f mode a b Z fl/\e=O (aK Z fl)/\Gr w w':=by
 refine Si f mode a b (qG xI f mode a b) (fun w' hg=>?_);have hw':=hw.gr hg;by_cases hf:f=0\/f=1
 ·obtain⟨p,mx,one,inf,sg,nan,hF⟩:=iG f hf;obtain⟨mn,fb,sp,hM,hmn,hfb⟩:=hF.m;by_cases hm:0<=mode/\mode<=4
  ·obtain⟨k,hk⟩:=lq mode hm.1 hm.2;obtain⟨x,hx,HA⟩:=l9 hF hM a a0 a1;obtain⟨y,hy,HB⟩:=l9 hF hM b b0 b1;obtain⟨v1,v2,v3,v4,v5,v6⟩:=bT hF hx;obtain⟨u1,u2,u3,u4,u5,u6⟩:=bT hF hy;refine(KA p mn mx mode f k 180 a b _ _ _ _ _ _ _ _ _ _ _ _ (fun w'' hg'=>eY hF hM mode k (fun w=>gZ mode k hk w) (hw'.gr hg')) HA HB (qC (xI mode x y)) (fun w=>uz p mn mx mode k x y v1 u1 w) (b_ p mn mx one inf sg nan mode (xI mode x y)) (fun os oe oc oh ol ot w hq=>vJ hM mode k hk _ os oe oc oh ol ot hq w)).mono ?_;rintro e w'' ⟨Z,fl,hp,rfl,hg'⟩;rw[hmn]at hp;exact⟨_,_,.inl ⟨p,mx,one,inf,sg,nan,x,y,hF,hm,hx,hy,hp⟩,rfl,hg'⟩
  ·refine(kK p mn mx mode nan f mode a b (fun w'' hg'=>gV hF hM mode (fun w=>kV mode om w) (hw'.gr hg')) (fun w=>dI hM w) 180).mono ?_;rintro e w'' ⟨rfl,hg'⟩;exact⟨_,_,.inr (.inl ⟨p,mx,one,inf,sg,nan,hF,om,rfl,rfl⟩),rfl,hg'⟩
 ·refine(kK _ _ _ _ _ f mode a b (fun w'' hg'=>fV f mode hf (hw'.gr hg')) (fun w=>dI m64 w) 180).mono ?_;rintro e w'' ⟨rfl,hg'⟩;exact⟨_,_,.inr (.inr ⟨hf,rfl,rfl⟩),rfl,hg'⟩
theorem Eh(h:aQ f p mx one inf sg nan)(b z:Int)(b0:0<=b)(hb:b<2*sg)(hz:b<sg/\z=b+sg\/sg<=b/\z=b-sg){y:cu}(hy:bQ p mx one inf sg nan b y):0<=z/\z<2*sg/\bQ p mx one inf sg nan z (jX y):=by
 have hbd:=h.bounds;rcases hy with⟨_,v,hs,hc⟩|⟨c,_⟩
 ·refine⟨om,om,.inl ⟨om,v,?_,hc⟩⟩;unfold jX;dsimp only
  rcases hs with⟨s0,rfl,s1⟩|⟨s0,rfl,s1⟩
  ·rw[s0];exact .inr ⟨om,om,om⟩
  ·rw[s0];exact .inl ⟨om,om,om⟩
 ·exfalso;omega
theorem Qb(h:aQ f p mx one inf sg nan)(mode a b:Int)(hm:0<=mode/\mode<=4)(a0:0<=a)(a1:a<18446744073709551616)(b0:0<=b)(b1:b<18446744073709551616){x y:cu}(hx:bQ p mx one inf sg nan a x)(hy:bQ p mx one inf sg nan b y)(w:World):
  CT 124 #[J f,J mode,Y a,Y b] w fun e w'=>∃Z fl,b_ p (1-mx) mx one inf sg nan mode (xI mode x y) Z fl/\e=O (aK Z fl)/\Gb w w':=by
 have hbd:=h.bounds;by_cases hfit:a<2*sg/\b<2*sg
 ·obtain⟨fa,XH⟩:=hfit;obtain⟨z,hz⟩:∃z,b<sg/\z=b+sg\/sg<=b/\z=b-sg:=by
   by_cases c:b<sg
   ·exact⟨_,.inl ⟨c,rfl⟩⟩
   ·exact⟨_,.inr ⟨om,rfl⟩⟩
  obtain⟨z0,z1,hz2⟩:=Eh h b z b0 XH hz hy;exact aBW f mode a b z (fun w=>jd h mode a b hm.1 hm.2 a0 fa b0 XH w) (fun w=>zW h b z b0 XH hz w) _ (fun w=>Ew h mode a z hm a0 a1 z0 om hx hz2 w) w
 ·refine(EI f mode a b (fun w=>eH f mode a b a0 a1 b0 b1 (rP h a1 b1 om) w) nan 1 (fun w=>dJ h w) w).mono ?_;rintro e w' ⟨rfl,hg⟩;refine⟨_,_,?_,rfl,hg⟩;obtain⟨v1,_⟩:=bT h hx;obtain⟨u1,_⟩:=bT h hy;have U8:=v1.c4;have yc4:=u1.c4;have:max x.c (jX y).c =4:=by
   show max x.c y.c=4;rcases(show 2*sg<=a\/2*sg<=b by omega)with c|c
   ·have:=rM h hx c;subst this;dsimp only at*;omega
   ·have:=rM h hy c;subst this;dsimp only at*;omega
  unfold xI;rw[rF mode x (jX y) (by omega)];exact mZ this
theorem Ce(f mode a b:Int)(a0:0<=a)(a1:a<18446744073709551616)(b0:0<=b)(b1:b<18446744073709551616)(w:World):
  CT 124 #[J f,J mode,Y a,Y b] w fun e w'=>∃Z fl,qG xI f mode a b Z fl/\e=O (aK Z fl)/\Gb w w':=by
 by_cases hf:f=0\/f=1
 ·obtain⟨p,mx,one,inf,sg,nan,hF⟩:=iG f hf;by_cases hm:0<=mode/\mode<=4
  ·obtain⟨x,hx⟩:=fG hF a a0 a1;obtain⟨y,hy⟩:=fG hF b b0 b1;refine(Qb hF mode a b hm a0 a1 b0 b1 hx hy w).mono ?_;rintro e w' ⟨Z,fl,hp,rfl,hg⟩;exact⟨_,_,.inl ⟨p,mx,one,inf,sg,nan,x,y,hF,hm,hx,hy,hp⟩,rfl,hg⟩
  ·refine(EI f mode a b (fun w=>eH f mode a b a0 a1 b0 b1 (.inl om) w) nan 1 (fun w=>dJ hF w) w).mono ?_;rintro e w' ⟨rfl,hg⟩;exact⟨_,_,.inr (.inl ⟨p,mx,one,inf,sg,nan,hF,om,rfl,rfl⟩),rfl,hg⟩
 ·refine(EI f mode a b (fun w=>eH f mode a b a0 a1 b0 b1 (.inr (.inl hf)) w) _ 1 (fun w=>oW f hf w) w).mono ?_;rintro e w' ⟨rfl,hg⟩;exact⟨_,_,.inr (.inr ⟨hf,rfl,rfl⟩),rfl,hg⟩
theorem rG(f mode a b:Int)(a0:0<=a)(a1:a<18446744073709551616)(b0:0<=b)(b1:b<18446744073709551616):
  ∃Z fl:Int,qG xI f mode a b Z fl/\(∀w,QB 124 #[J f,J mode,Y a,Y b] w (aK Z fl))/\
   (∀w,Fm w->QR 134 #[J f,J mode,Y a,Y b] w (aK Z fl)):=
 KC xI 124 134 (fun mode x y hx hy _ _ _ _ _ _=>YG mode x (jX y) hx hy.turn) f mode a b a0 a1 b0 b1 (Ce f mode a b a0 a1 b0 b1) (CS f mode a b a0 a1 b0 b1)
theorem aHp{b:Bool}(h:aQ f p mx one inf sg nan)(hr:aP p (1-mx) mx one inf mode s M e b z fl):0<=z/\z<sg:=by
 have hb:=h.bounds;obtain⟨top,E,r,r2,hf,h1,h2,h3,h4,h5,h6⟩:=hr;have hov:gI inf mode s=inf\/gI inf mode s=inf-1:=by unfold gI;split<;>simp
 have hE:0<=one*(E-(1-mx)):=Int.mul_nonneg om om;rcases h6 with⟨_,rfl,_⟩|⟨_,_,rfl,_⟩|⟨_,h7,rfl,_⟩
 ·omega
 ·omega
 ·generalize one*(E-(1-mx))=Q at*
  omega
theorem Zx{o:cu}(h:aQ f p mx one inf sg nan)(hp:b_ p (1-mx) mx one inf sg nan mode o Z fl):Wd Z:=by
 have hb:=h.bounds;have hsg:2*sg<=18446744073709551616:=by
  rcases h with⟨_,_,_,_,_,rfl,_⟩|⟨_,_,_,_,_,rfl,_⟩<;>omega
 have hsw:∀z,0<=z->z<sg->Wd (sw o.s sg z):=by
  intro z z0 z1;unfold sw Wd;split<;>omega
 rcases hp with⟨_,rfl,_⟩|⟨_,z,hz,rfl⟩|⟨_,rfl,_⟩|⟨_,rfl,_⟩|⟨_,rfl,_⟩
 ·exact hsw 0 om om
 ·have:=aHp h hz;exact hsw z this.1 this.2
 ·exact hsw inf om om
 ·unfold Wd;omega
 ·unfold Wd;omega
theorem Rj(h:aQ f p mx one inf sg nan):Wd nan:=by
 rcases h with⟨_,_,_,_,_,_,rfl⟩|⟨_,_,_,_,_,_,rfl⟩<;>(unfold Wd;omega)
theorem qG.wd{R:Int->cu->cu->cu}(h:qG R f mode a b Z fl):Wd Z:=by
 rcases h with⟨p,mx,one,inf,sg,nan,x,y,hF,hm,hx,hy,hp⟩|⟨p,mx,one,inf,sg,nan,hF,hm,rfl,rfl⟩|⟨hF,rfl,rfl⟩
 ·exact Zx hF hp
 ·exact Rj hF
 ·unfold Wd;omega
theorem mO.wd{R:Int->Int->cu->cu->cu}(h:mO R f mode a b Z fl):Wd Z:=by
 rcases h with⟨p,mx,one,inf,sg,nan,x,y,hF,hm,hx,hy,hp⟩|⟨p,mx,one,inf,sg,nan,hF,hm,rfl,rfl⟩|⟨hF,rfl,rfl⟩
 ·rcases hp with hp|⟨_,rfl,_⟩
  ·exact Zx hF hp
  ·have hb:=hF.bounds;rcases hF with⟨_,_,_,_,rfl,rfl,_⟩|⟨_,_,_,_,rfl,rfl,_⟩<;>(unfold Wd sw;split<;>omega)
 ·exact Rj hF
 ·unfold Wd;omega
theorem dU.wd(h:dU f mode kind a Z fl):Wd Z:=by
 rcases h with⟨p,mx,one,inf,sg,nan,hF,hm,hk,hp⟩|⟨p,mx,one,inf,sg,nan,hF,hm,rfl,rfl⟩|⟨hF,rfl,rfl⟩
 ·exact Zx hF hp
 ·exact Rj hF
 ·unfold Wd;omega
theorem f64:aQ 1 53 1023 4503599627370496 9218868437227405312 9223372036854775808 9221120237041090560:=.inr ⟨rfl,rfl,rfl,rfl,rfl,rfl,rfl⟩
theorem yT(n:Nat)(h0:0<n)(h1:n<1000)(z:Int)(hz:aP 53 (1-1023) 1023 4503599627370496 9218868437227405312 0 0 n 0 false z 0):dU 1 0 1 (n:Int) z 0:=by
 have hs:cO 1 (n:Int)=0:=by unfold cO;rw[if_neg (by omega)]
 have hM:eG 1 (n:Int)=n:=by unfold eG;rw[if_neg (by omega)];omega
 refine .inl ⟨53,1023,4503599627370496,9218868437227405312,9223372036854775808,9221120237041090560,f64,⟨om,om⟩,?_,?_⟩
 ·unfold d_;rw[hs,hM,show bK 1 0=9223372036854775807 by decide];exact decide_eq_true om
 ·unfold qP;rw[hs,hM,if_neg (by omega)];exact .inr (.inl ⟨rfl,z,hz,rfl⟩)
theorem aF4:dU 1 0 1 1 4607182418800017408 0:=yT 1 de de _ ⟨0,0,4503599627370496,4503599627370496,0,de,.inr ⟨de,rfl⟩,de,de,de,.inr (.inr ⟨de,de,de,.inl ⟨rfl,rfl⟩⟩)⟩
theorem aFp:dU 1 0 1 2 4611686018427387904 0:=yT 2 de de _ ⟨1,1,4503599627370496,4503599627370496,0,de,.inr ⟨de,rfl⟩,de,de,de,.inr (.inr ⟨de,de,de,.inl ⟨rfl,rfl⟩⟩)⟩
theorem aCM:mO divO 1 0 4607182418800017408 4611686018427387904 4602678819172646912 0:=by
 refine .inl ⟨53,1023,4503599627370496,9218868437227405312,9223372036854775808,9221120237041090560,⟨1,0,-52,4503599627370496⟩,⟨1,0,-51,4503599627370496⟩,f64,⟨om,om⟩,?_,?_,.inl ?_⟩
 ·exact .inl ⟨de,4607182418800017408,.inl ⟨rfl,rfl,de⟩,.inr (.inr (.inr (.inr ⟨de,de,rfl,0,4503599627370496,-52,.inr ⟨de,de,de⟩,de,de,de,de⟩)))⟩
 ·exact .inl ⟨de,4611686018427387904,.inl ⟨rfl,rfl,de⟩,.inr (.inr (.inr (.inr ⟨de,de,rfl,0,4503599627370496,-51,.inr ⟨de,de,de⟩,de,de,de,de⟩)))⟩
 ·have e:divO 53 0 ⟨1,0,-52,4503599627370496⟩ ⟨1,0,-51,4503599627370496⟩=⟨1,0,-59,288230376151711744⟩:=by
   unfold divO;rw[if_neg de,if_neg de,if_neg de,if_neg de,if_pos (by decide)];rfl
  rw[e];exact .inr (.inl ⟨rfl,4602678819172646912,⟨-1,-1,4503599627370496,4503599627370496,0,de,.inr ⟨de,rfl⟩,de,de,de,.inr (.inr ⟨de,de,de,.inl ⟨rfl,rfl⟩⟩)⟩,rfl⟩)
section
variable [Inhabited Ch]
def Jd(a b:Int):Int:=pick (qG gQ 1 0 a b)
def PZ(a b:Int):Int:=pick (qG xI 1 0 a b)
def LD(a b:Int):Int:=pick (qG oQ 1 0 a b)
def P5(a b:Int):Int:=pick (mO divO 1 0 a b)
def H9(a:Int):Int:=pick (mO kU 1 0 a a)
theorem tX(h:qG gQ 1 0 a b Z fl):Jd a b=Z:=jQ qG.one h
theorem zq(h:qG xI 1 0 a b Z fl):PZ a b=Z:=jQ qG.one h
theorem wP(h:qG oQ 1 0 a b Z fl):LD a b=Z:=jQ qG.one h
theorem zA(h:mO divO 1 0 a b Z fl):P5 a b=Z:=jQ mO.one h
theorem zu(h:mO kU 1 0 a a Z fl):H9 a=Z:=jQ mO.one h
def LG(n:Int):Int:=pick (dU 1 0 1 (n%18446744073709551616))
theorem wQ(h:dU 1 0 1 (n%18446744073709551616) Z fl):LG n=Z:=jQ dU.one h
def dh:Ops:=⟨LG,Jd,PZ,LD,P5,H9⟩
theorem jR:dh.In where
 int n:=by obtain⟨Z,fl,h⟩:=D5 1 0 1 (n%18446744073709551616);show Wd (LG n);rw[wQ h];exact h.wd
 add ha hb:=by obtain⟨Z,fl,h,h1,h2⟩:=add_same 1 0 _ _ ha.1 ha.2 hb.1 hb.2;show Wd (Jd _ _);rw[tX h];exact h.wd
 sub ha hb:=by obtain⟨Z,fl,h,h1,h2⟩:=rG 1 0 _ _ ha.1 ha.2 hb.1 hb.2;show Wd (PZ _ _);rw[zq h];exact h.wd
 mul ha hb:=by obtain⟨Z,fl,h,h1,h2⟩:=rU 1 0 _ _ ha.1 ha.2 hb.1 hb.2;show Wd (LD _ _);rw[wP h];exact h.wd
 div ha hb:=by obtain⟨Z,fl,h,h1,h2⟩:=FN 1 0 _ _ ha.1 ha.2 hb.1 hb.2;show Wd (P5 _ _);rw[zA h];exact h.wd
 sqrt ha:=by obtain⟨Z,fl,h,h1,h2⟩:=AZ 1 0 _ ha.1 ha.2;show Wd (H9 _);rw[zu h];exact h.wd
theorem vO:dh.S where
 one:=wQ (n:=1) aF4
 half:=by
  have h2:LG 2=4611686018427387904:=wQ (n:=2) aFp;show P5 _ (LG 2)=_;rw[h2];exact zA aCM
 int n u n0 n1 hu:=by
  subst hu;intro w;have h0:0<=n%18446744073709551616:=Int.emod_nonneg _ om;have h1:n%18446744073709551616<18446744073709551616:=Int.emod_lt_of_pos _ om;refine(iw 1 0 1 (n%18446744073709551616) h0 h1 w).mono ?_;rintro e w' ⟨Z,fl,hp,he,hg⟩;exact⟨fl,by rw[show dh.int n=Z from wQ hp];exact he,hg⟩
 add ha hb:=by obtain⟨Z,fl,h,h1,h2⟩:=add_same 1 0 _ _ ha.1 ha.2 hb.1 hb.2;intro w;show Calls _ _ _ _ (fun e w'=>∃fl,e=O (.agg #[Y (Jd _ _),_])/\_);rw[tX h];exact(h1 w).mono fun e w' h=>⟨fl,h⟩
 sub ha hb:=by obtain⟨Z,fl,h,h1,h2⟩:=rG 1 0 _ _ ha.1 ha.2 hb.1 hb.2;intro w;show Calls _ _ _ _ (fun e w'=>∃fl,e=O (.agg #[Y (PZ _ _),_])/\_);rw[zq h];exact(h1 w).mono fun e w' h=>⟨fl,h⟩
 mul ha hb:=by obtain⟨Z,fl,h,h1,h2⟩:=rU 1 0 _ _ ha.1 ha.2 hb.1 hb.2;intro w;show Calls _ _ _ _ (fun e w'=>∃fl,e=O (.agg #[Y (LD _ _),_])/\_);rw[wP h];exact(h1 w).mono fun e w' h=>⟨fl,h⟩
 div ha hb:=by obtain⟨Z,fl,h,h1,h2⟩:=FN 1 0 _ _ ha.1 ha.2 hb.1 hb.2;intro w;show Calls _ _ _ _ (fun e w'=>∃fl,e=O (.agg #[Y (P5 _ _),_])/\_);rw[zA h];exact(h1 w).mono fun e w' h=>⟨fl,h⟩
 sqrt ha:=by obtain⟨Z,fl,h,h1,h2⟩:=AZ 1 0 _ ha.1 ha.2;intro w;show Calls _ _ _ _ (fun e w'=>∃fl,e=O (.agg #[Y (H9 _),_])/\_);rw[zu h];exact(h1 w).mono fun e w' h=>⟨fl,h⟩
theorem yO:dh.I where
 add ha hb:=by obtain⟨Z,fl,h,h1,h2⟩:=add_same 1 0 _ _ ha.1 ha.2 hb.1 hb.2;intro w hw;show Calls _ _ _ _ (fun e w'=>∃fl,e=O (.agg #[Y (Jd _ _),_])/\_);rw[tX h];exact(h2 w hw).mono fun e w' h=>⟨fl,h⟩
 sub ha hb:=by obtain⟨Z,fl,h,h1,h2⟩:=rG 1 0 _ _ ha.1 ha.2 hb.1 hb.2;intro w hw;show Calls _ _ _ _ (fun e w'=>∃fl,e=O (.agg #[Y (PZ _ _),_])/\_);rw[zq h];exact(h2 w hw).mono fun e w' h=>⟨fl,h⟩
 mul ha hb:=by obtain⟨Z,fl,h,h1,h2⟩:=rU 1 0 _ _ ha.1 ha.2 hb.1 hb.2;intro w hw;show Calls _ _ _ _ (fun e w'=>∃fl,e=O (.agg #[Y (LD _ _),_])/\_);rw[wP h];exact(h2 w hw).mono fun e w' h=>⟨fl,h⟩
 div ha hb:=by obtain⟨Z,fl,h,h1,h2⟩:=FN 1 0 _ _ ha.1 ha.2 hb.1 hb.2;intro w hw;show Calls _ _ _ _ (fun e w'=>∃fl,e=O (.agg #[Y (P5 _ _),_])/\_);rw[zA h];exact(h2 w hw).mono fun e w' h=>⟨fl,h⟩
 sqrt ha:=by obtain⟨Z,fl,h,h1,h2⟩:=AZ 1 0 _ ha.1 ha.2;intro w hw;show Calls _ _ _ _ (fun e w'=>∃fl,e=O (.agg #[Y (H9 _),_])/\_);rw[zu h];exact(h2 w hw).mono fun e w' h=>⟨fl,h⟩
end
theorem wC:aQ 1 53 1023 4503599627370496 9218868437227405312 9223372036854775808 9221120237041090560:=.inr ⟨rfl,rfl,rfl,rfl,rfl,rfl,rfl⟩
theorem fmt7(h:aQ 1 p mx one inf sg nan):p=53/\mx=1023/\one=4503599627370496/\inf=9218868437227405312/\sg=9223372036854775808/\nan=9221120237041090560:=h.one wC
abbrev aDi(a:Int)(x:cu):Prop:=bQ 53 1023 4503599627370496 9218868437227405312 9223372036854775808 9221120237041090560 a x
abbrev aFk(mode:Int)(x:cu)(Z fl:Int):Prop:=b_ 53 (1-1023) 1023 4503599627370496 9218868437227405312 9223372036854775808 9221120237041090560 mode x Z fl
theorem Y_{b:Bool}(hr:aP 53 (1-1023) 1023 4503599627370496 9218868437227405312 mode s M e b z fl):0<=z/\z<=9218868437227405312:=by
 obtain⟨top,E,r,r2,hf,h1,h2,h3,h4,h5,h6⟩:=hr;have hov:gI 9218868437227405312 mode s=9218868437227405312\/gI 9218868437227405312 mode s=9218868437227405312-1:=by unfold gI;split<;>simp
 rcases h6 with⟨_,rfl,_⟩|⟨_,_,rfl,_⟩|⟨_,h7,rfl,_⟩<;>omega
theorem Bf{o:cu}(h:aFk mode o Z fl):Wo Z/\(9223372036854775808<=Z->Z%9223372036854775808<=9218868437227405312)/\(o.s=1->o.c<=2->9223372036854775808<=Z):=by
 have hsw:∀z,0<=z->z<=9218868437227405312->Wo (sw o.s 9223372036854775808 z)/\(9223372036854775808<=sw o.s 9223372036854775808 z->sw o.s 9223372036854775808 z%9223372036854775808<=9218868437227405312)/\(o.s=1->o.c<=2->9223372036854775808<=sw o.s 9223372036854775808 z):=by
  intro z z0 z1;unfold sw Wo;split<;>omega
 rcases h with⟨_,rfl,_⟩|⟨_,z,hz,rfl⟩|⟨_,rfl,_⟩|⟨c,rfl,_⟩|⟨c,rfl,_⟩
 ·exact hsw 0 om om
 ·have:=Y_ hz;exact hsw z this.1 this.2
 ·exact hsw _ om om
 ·exact⟨Wo.c _,om,om⟩
 ·exact⟨Wo.c _,om,om⟩
section
variable [Inhabited Ch]
def o7:O7:=⟨fun n=>pick (dU 1 0 1 (n%18446744073709551616)),fun a b=>pick (qG xI 1 0 a b),fun a b=>pick (qG oQ 1 0 a b),fun a=>pick (jA 1 4 a false),fun a=>pick (dA 1 2 3 a),fun a=>pick (dA 1 0 1 a)⟩
theorem Uj{R:Int->cu->cu->cu}(h:qG R 1 0 a b Z fl):∃x y,aDi a x/\aDi b y/\aFk 0 (R 0 x y) Z fl:=by
 rcases h with⟨p,mx,one,inf,sg,nan,x,y,hF,hm,hx,hy,hp⟩|⟨p,mx,one,inf,sg,nan,hF,hm,rfl,rfl⟩|⟨hF,_⟩
 ·obtain⟨rfl,rfl,rfl,rfl,rfl,rfl⟩:=fmt7 hF;exact⟨x,y,hx,hy,hp⟩
 ·omega
 ·omega
theorem YH(ha:Wo a)(hb:Wo b):∃Z fl,qG xI 1 0 a b Z fl:=by obtain⟨Z,fl,h,_⟩:=rG 1 0 a b ha.1 ha.2 hb.1 hb.2;exact⟨Z,fl,h⟩
theorem ZO(ha:Wo a)(hb:Wo b):∃Z fl,qG oQ 1 0 a b Z fl:=by obtain⟨Z,fl,h,_⟩:=rU 1 0 a b ha.1 ha.2 hb.1 hb.2;exact⟨Z,fl,h⟩
theorem Ec(s:Int)(M:Nat)(h:M<18446744073709551616):Wo (eP s M):=by unfold eP Wo;split<;>omega
theorem Uo(kind s:Int):bK kind s<18446744073709551616:=by unfold bK;(repeat' split)<;>omega
theorem TQ(h:dA 1 mode kind a Z fl):Wo Z:=by
 rcases h with⟨p,mx,one,inf,sg,nan,x,hF,ha,hm,hk,hx,hp⟩|⟨_,rfl,_⟩
 ·have hm:=Uo kind x.s;rcases hp with⟨_,rfl,_⟩|⟨_,c,rfl,_⟩|⟨_,_,rfl,_⟩
  ·exact Ec _ _ (Uo kind 0)
  ·exact Ec _ _ om
  ·exact Ec _ _ hm
 ·exact Wo.c 0
theorem aFG(h:jA 1 mode a ex Z fl):Wo Z:=by
 rcases h with⟨p,mx,one,inf,sg,nan,x,hF,hm,hx,hp⟩|⟨p,mx,one,inf,sg,nan,hF,hm,rfl,rfl⟩|⟨_,rfl,_⟩
 ·obtain⟨rfl,rfl,rfl,rfl,rfl,rfl⟩:=fmt7 hF;rcases hp with⟨_,rfl,_⟩|⟨_,hp,_⟩
  ·exact Wo.c _
  ·exact(Bf hp).1
 ·obtain⟨rfl,rfl,rfl,rfl,rfl,rfl⟩:=fmt7 hF;exact Wo.c _
 ·exact Wo.c _
theorem aAD(h:dU 1 mode kind a Z fl):Wo Z:=by
 rcases h with⟨p,mx,one,inf,sg,nan,hF,hm,hk,hp⟩|⟨p,mx,one,inf,sg,nan,hF,hm,rfl,rfl⟩|⟨_,rfl,_⟩
 ·obtain⟨rfl,rfl,rfl,rfl,rfl,rfl⟩:=fmt7 hF;exact(Bf hp).1
 ·obtain⟨rfl,rfl,rfl,rfl,rfl,rfl⟩:=fmt7 hF;exact Wo.c _
 ·exact Wo.c _
theorem JH(h:qG xI 1 0 a b Z fl):o7.sub a b=Z:=jQ qG.one h
theorem Bj(h:qG oQ 1 0 a b Z fl):o7.mul a b=Z:=jQ qG.one h
theorem vS(h:dU 1 0 1 (n%18446744073709551616) Z fl):o7.int n=Z:=jQ dU.one h
theorem DU(h:jA 1 4 a false Z fl):o7.jc a=Z:=jQ jA.one h
theorem JI(h:dA 1 2 3 a Z fl):o7.fix a=Z:=jQ dA.one h
theorem Fa(h:dA 1 0 1 a Z fl):o7.whole a=Z:=jQ dA.one h
theorem CG:o7.In where
 int n:=by obtain⟨Z,fl,h⟩:=D5 1 0 1 (n%18446744073709551616);rw[vS h];exact aAD h
 sub ha hb:=by obtain⟨Z,fl,h⟩:=YH ha hb;obtain⟨x,y,_,_,hp⟩:=Uj h;rw[JH h];exact(Bf hp).1
 aHg ha hb:=by obtain⟨Z,fl,h⟩:=YH ha hb;obtain⟨x,y,_,_,hp⟩:=Uj h;rw[JH h];exact(Bf hp).2.1
 mul ha hb:=by obtain⟨Z,fl,h⟩:=ZO ha hb;obtain⟨x,y,_,_,hp⟩:=Uj h;rw[Bj h];exact(Bf hp).1
 jc ha:=by obtain⟨Z,fl,h⟩:=Jw 1 4 _ false ha.1 ha.2;rw[DU h];exact aFG h
 fix ha:=by obtain⟨Z,fl,h⟩:=zG 1 2 3 _ ha.1 ha.2;rw[JI h];exact TQ h
 whole ha:=by obtain⟨Z,fl,h⟩:=zG 1 0 1 _ ha.1 ha.2;rw[Fa h];exact TQ h
theorem wU(s k:Int)(hs:s=0\/s=1)(k0:-1022<=k)(k1:k<=1023):aDi (sw s 9223372036854775808 (4503599627370496*(k+1023))) ⟨1,s,k-52,4503599627370496⟩:=by
 refine .inl ⟨by unfold sw;split<;>omega,4503599627370496*(k+1023),?_,.inr (.inr (.inr (.inr ⟨om,om,rfl,0,4503599627370496,k-52,.inr ⟨om,om,om⟩,by dsimp only;decide,by dsimp only;omega,by dsimp only;decide,by dsimp only;decide⟩)))⟩;rcases hs with rfl|rfl
 ·exact .inl ⟨rfl,by unfold sw;rw[if_neg (by decide)],by unfold sw;rw[if_neg (by decide)];omega⟩
 ·exact .inr ⟨rfl,by unfold sw;rw[if_pos rfl];omega,by unfold sw;rw[if_pos rfl];omega⟩
theorem Bo(hs:s=0\/s=1)(ht:t=0\/t=1)(k0:-1022<=k)(k1:k<=1023)(j0:-1022<=j)(j1:j<=1023)(ha:a=sw s 9223372036854775808 (4503599627370496*(k+1023)))(hb:b=sw t 9223372036854775808 (4503599627370496*(j+1023)))
  (hr:aP 53 (1-1023) 1023 4503599627370496 9218868437227405312 0 (mulS s t) 20282409603651670423947251286016 (k-52+(j-52)) false z 0):o7.mul a b=sw (mulS s t) 9223372036854775808 z:=by
 refine Bj (fl:=0) (.inl ⟨53,1023,4503599627370496,9218868437227405312,9223372036854775808,9221120237041090560,⟨1,s,k-52,4503599627370496⟩,⟨1,t,j-52,4503599627370496⟩,wC,⟨de,de⟩,ha▸wU s k hs k0 k1,hb▸wU t j ht j0 j1,?_⟩);have e:oQ 0 ⟨1,s,k-52,4503599627370496⟩ ⟨1,t,j-52,4503599627370496⟩=⟨1,mulS s t,k-52+(j-52),20282409603651670423947251286016⟩:=by
  unfold oQ dO;dsimp only
  rw[if_neg de,if_neg de,if_neg de,if_neg (by decide)]
 rw[e];exact .inr (.inl ⟨rfl,z,hr,rfl⟩)
theorem xw(hk:d_ kind n=true)(hM:eG kind n=M)(hs:cO kind n=s)(h0:M≠0)(hr:aP 53 (1-1023) 1023 4503599627370496 9218868437227405312 0 s M 0 false z 0):dU 1 0 kind n (sw s 9223372036854775808 z) 0:=by
 refine .inl ⟨53,1023,4503599627370496,9218868437227405312,9223372036854775808,9221120237041090560,wC,⟨de,de⟩,hk,?_⟩;have hi:qP kind n=⟨1,s,0,M⟩:=by unfold qP;rw[hM,hs,if_neg h0]
 rw[hi];exact .inr (.inl ⟨rfl,z,hr,rfl⟩)
theorem aJE:o7.int (-2199023255552)=14015202040376983552:=vS (n:=-2199023255552) (xw (M:=2199023255552) (s:=1) (z:=4791830003522207744) de de de de ⟨41,41,4503599627370496,4503599627370496,0,de,.inr ⟨de,rfl⟩,de,de,de,.inr (.inr ⟨de,de,de,.inl ⟨rfl,rfl⟩⟩)⟩)
theorem i41:o7.int (2199023255552)=4791830003522207744:=vS (n:=2199023255552) (xw (M:=2199023255552) (s:=0) (z:=4791830003522207744) de de de de ⟨41,41,4503599627370496,4503599627370496,0,de,.inr ⟨de,rfl⟩,de,de,de,.inr (.inr ⟨de,de,de,.inl ⟨rfl,rfl⟩⟩)⟩)
theorem i1:o7.int (1)=4607182418800017408:=vS (n:=1) (xw (M:=1) (s:=0) (z:=4607182418800017408) de de de de ⟨0,0,4503599627370496,4503599627370496,0,de,.inr ⟨de,rfl⟩,de,de,de,.inr (.inr ⟨de,de,de,.inl ⟨rfl,rfl⟩⟩)⟩)
theorem i2:o7.int (2)=4611686018427387904:=vS (n:=2) (xw (M:=2) (s:=0) (z:=4611686018427387904) de de de de ⟨1,1,4503599627370496,4503599627370496,0,de,.inr ⟨de,rfl⟩,de,de,de,.inr (.inr ⟨de,de,de,.inl ⟨rfl,rfl⟩⟩)⟩)
theorem i0:o7.int 0=0:=vS (n:=0) (fl:=0) (.inl ⟨53,1023,4503599627370496,9218868437227405312,9223372036854775808,9221120237041090560,wC,⟨de,de⟩,de,.inl ⟨rfl,rfl,rfl⟩⟩)
theorem f32:dU 1 0 3 4294967296 c32 0:=xw (M:=4294967296) (s:=0) de de de de ⟨32,32,4503599627370496,4503599627370496,0,de,.inr ⟨de,rfl⟩,de,de,de,.inr (.inr ⟨de,de,de,.inl ⟨rfl,rfl⟩⟩)⟩
theorem f63:dU 1 0 3 9223372036854775808 c63 0:=xw (M:=9223372036854775808) (s:=0) de de de de ⟨63,63,4503599627370496,4503599627370496,0,de,.inr ⟨de,rfl⟩,de,de,de,.inr (.inr ⟨de,de,de,.inl ⟨rfl,rfl⟩⟩)⟩
theorem aJA:o7.mul 14015202040376983552 qR=14010698440749613056:=Bo (s:=1) (t:=0) (k:=41) (j:=-1) (z:=4787326403894837248) de de de de de de de de ⟨40,40,4503599627370496,4503599627370496,0,de,.inr ⟨de,rfl⟩,de,de,de,.inr (.inr ⟨de,de,de,.inl ⟨rfl,rfl⟩⟩)⟩
theorem m41:o7.mul 4791830003522207744 qR=4787326403894837248:=Bo (s:=0) (t:=0) (k:=41) (j:=-1) (z:=4787326403894837248) de de de de de de de de ⟨40,40,4503599627370496,4503599627370496,0,de,.inr ⟨de,rfl⟩,de,de,de,.inr (.inr ⟨de,de,de,.inl ⟨rfl,rfl⟩⟩)⟩
theorem m1:o7.mul 4607182418800017408 qR=4602678819172646912:=Bo (s:=0) (t:=0) (k:=0) (j:=-1) (z:=4602678819172646912) de de de de de de de de ⟨-1,-1,4503599627370496,4503599627370496,0,de,.inr ⟨de,rfl⟩,de,de,de,.inr (.inr ⟨de,de,de,.inl ⟨rfl,rfl⟩⟩)⟩
theorem m2:o7.mul 4611686018427387904 qR=4607182418800017408:=Bo (s:=0) (t:=0) (k:=1) (j:=-1) (z:=4607182418800017408) de de de de de de de de ⟨0,0,4503599627370496,4503599627370496,0,de,.inr ⟨de,rfl⟩,de,de,de,.inr (.inr ⟨de,de,de,.inl ⟨rfl,rfl⟩⟩)⟩
theorem mh:o7.mul 4602678819172646912 qR=4598175219545276416:=Bo (s:=0) (t:=0) (k:=-1) (j:=-1) (z:=4598175219545276416) de de de de de de de de ⟨-2,-2,4503599627370496,4503599627370496,0,de,.inr ⟨de,rfl⟩,de,de,de,.inr (.inr ⟨de,de,de,.inl ⟨rfl,rfl⟩⟩)⟩
theorem mq:o7.mul 4598175219545276416 qR=4593671619917905920:=Bo (s:=0) (t:=0) (k:=-2) (j:=-1) (z:=4593671619917905920) de de de de de de de de ⟨-3,-3,4503599627370496,4503599627370496,0,de,.inr ⟨de,rfl⟩,de,de,de,.inr (.inr ⟨de,de,de,.inl ⟨rfl,rfl⟩⟩)⟩
theorem m0:o7.mul 0 qR=0:=by
 refine Bj (fl:=0) (.inl ⟨53,1023,4503599627370496,9218868437227405312,9223372036854775808,9221120237041090560,⟨0,0,0,0⟩,⟨1,0,-1-52,4503599627370496⟩,wC,⟨de,de⟩,.inl ⟨de,0,.inl ⟨rfl,rfl,de⟩,.inl ⟨rfl,rfl,rfl,rfl⟩⟩,(show sw 0 9223372036854775808 (4503599627370496*(-1+1023))=qR by decide)▸wU 0 (-1) de de de,?_⟩);exact .inl ⟨rfl,rfl,rfl⟩
theorem aHB(hx:Wo x)(h0:9223372036854775808<=x)(h1:x%9223372036854775808<=9218868437227405312):o7.fix (o7.mul x c32)=0:=by
 have Uk:∀{a:Int} {y:cu},9223372036854775808<=a->a%9223372036854775808<=9218868437227405312->a<18446744073709551616->aDi a y->y.s=1/\y.c<=2:=by
  intro a y a0 a1 a2 hy;rcases hy with⟨_,v,hs,hv⟩|⟨c,_⟩
  ·rcases hs with⟨_,_,c⟩|⟨hs,rfl,_⟩
   ·omega
   ·refine⟨hs,?_⟩;rcases hv with⟨_,c,_⟩|⟨c,_⟩|⟨c,_⟩|⟨_,c,_⟩|⟨_,_,c,_⟩<;>omega
  ·omega
 obtain⟨Z,fl,h⟩:=ZO hx (Wo.c c32);rw[Bj h];obtain⟨u,v,hu,hv,hp⟩:=Uj h;obtain rfl:=hv.one wC (wU 0 32 de de de);obtain⟨us,uc⟩:=Uk h0 h1 hx.2 hu;have u0:=(bT wC hu).1.c0;obtain⟨p1,p2,p3⟩:=Bf hp;have hpo:(oQ 0 u ⟨1,0,32-52,4503599627370496⟩).s =1/\(oQ 0 u ⟨1,0,32-52,4503599627370496⟩).c <=2:=by
  unfold oQ dO;have hm:mulS u.s 0=1:=by rw[us];decide
  dsimp only
  rw[if_neg om,if_neg om,hm]
  (repeat' split)<;>exact⟨rfl,by dsimp only;omega⟩
 have hZ:=p3 hpo.1 hpo.2;obtain⟨T,f,hT⟩:=zG 1 2 3 Z p1.1 p1.2;rw[JI hT];rcases hT with⟨p,mx,one,inf,sg,nan,y,hF,hlt,hm,hk,hy,ho⟩|⟨_,rfl,_⟩
 ·obtain⟨rfl,rfl,rfl,rfl,rfl,rfl⟩:=fmt7 hF;obtain⟨ys,yc⟩:=Uk hZ (p2 hZ) p1.2 hy;have hmk:bK 3 y.s=0:=by rw[ys];decide
  have hw:∀M:Nat,M=0->eP y.s M=0:=by intro M hM;subst hM;unfold eP;simp
  rcases ho with⟨c,_⟩|⟨_,c,rfl,_⟩|⟨_,_,rfl,_⟩
  ·omega
  ·exact hw _ om
  ·exact hw _ hmk
 ·rfl
theorem aBt(ha:Wo a)(h0:a%9223372036854775808<=4787326403894837248)(h:dA 1 2 1 (o7.jc a) T fl):o7.whole (o7.jc a)=T:=by
 obtain⟨Z,f1,hZ⟩:=Jw 1 4 a false ha.1 ha.2;rw[DU hZ]at h⊢
 rcases hZ with⟨p,mx,one,inf,sg,nan,x,hF,hm,hx,hp⟩|⟨p,mx,one,inf,sg,nan,hF,hm,_⟩|⟨c,_⟩
 ·obtain⟨rfl,rfl,rfl,rfl,rfl,rfl⟩:=fmt7 hF;have xc:x.c<=1:=by
   rcases hx with⟨_,v,hs,hv⟩|⟨c,_⟩
   ·have hvl:v<=4787326403894837248:=by rcases hs with⟨_,rfl,_⟩|⟨_,rfl,_⟩<;>have:=ha.1<;>have:=ha.2<;>omega
    rcases hv with⟨_,c,_⟩|⟨c,_⟩|⟨c,_⟩|⟨c,_⟩|⟨_,_,c,_⟩<;>omega
   ·have:=ha.2;omega
  rcases hp with⟨c,_⟩|⟨_,hp,_⟩
  ·omega
  obtain⟨⟨z0,z1,z2⟩,y,hy,yc,ys,hw,_⟩:=Nh ha.1 ha.2 wC hx om hp;have hw':=(hw xc).2;rcases h with⟨p,mx,one,inf,sg,nan,y',hF',hlt,hm',hk,hy',ho⟩|⟨c,_⟩
  ·obtain⟨rfl,rfl,rfl,rfl,rfl,rfl⟩:=fmt7 hF';obtain rfl:=hy.one wC hy';refine Fa (fl:=fl) (.inl ⟨_,_,_,_,_,_,y,wC,hlt,⟨de,de⟩,hk,hy,?_⟩);unfold jg at ho⊢
   rw[hw' 2]at ho;rw[hw' 0];exact ho
  ·unfold DI at c;omega
 ·omega
 ·omega
end
set_option maxRecDepth 1000000
theorem aDX{P:Prop}(h:P:=by
 rcases hv with⟨_,c,_⟩|⟨_,_,c,_⟩|⟨_,c,_⟩|⟨_,c,_⟩|⟨_,_,c,_⟩<;>omega):P:=h
section
variable [Inhabited Ch]
theorem Jc(n:Int)(n0:-9223372036854775808<=n)(n1:n<=9223372036854775807)(w:World):
  QB 40 #[J n] w (Y (o7.int n)):=by
 have hf:=nT;have hw:IntKind.u64.wrap n=n%18446744073709551616:=IntKind.wrap_u64 n;have HA:Hid (∀w,CT 36 #[J 1,J 0,J 1,Y (n%18446744073709551616)] w fun e w'=>∃fl:Int,e=O (aK (o7.int n) fl)/\Gb w w'):=fun w=>(iw 1 0 1 _ (Int.emod_nonneg _ de) (Int.emod_lt_of_pos _ de) w).mono fun e w' ⟨Z,fl,hp,he,hg⟩=>⟨fl,by rw[vS hp];exact he,hg⟩;generalize o7.int n=z at*
 generalize n%18446744073709551616=u at*
 go_enter func40,ntmps40;go_wp2_with (go_at_call 36;refine(HA _).mono ?_;rintro e w1 ⟨fl,rfl,ak⟩);go_returns;exact⟨rfl,kg⟩
theorem aCu(ha:Wo a)(hb:Wo b)(w:World):
  QB 59 #[Y a,Y b] w (Y (o7.sub a b)):=by
 have hf:=nT;have HA:Hid (∀w,CT 124 #[J 1,J 0,Y a,Y b] w fun e w'=>∃fl:Int,e=O (aK (o7.sub a b) fl)/\Gb w w'):=fun w=>(Ce 1 0 a b ha.1 ha.2 hb.1 hb.2 w).mono fun e w' ⟨Z,fl,hp,he,hg⟩=>⟨fl,by rw[JH hp];exact he,hg⟩;generalize o7.sub a b=z at*
 clear ha hb;go_enter func59,ntmps59;go_wp2_with (go_at_call 124;refine(HA _).mono ?_;rintro e w1 ⟨fl,rfl,ak⟩);go_returns;exact⟨rfl,kg⟩
theorem TR(ha:Wo a)(hb:Wo b)(w:World):
  QB 42 #[Y a,Y b] w (Y (o7.mul a b)):=by
 have hf:=nT;have HA:Hid (∀w,CT 104 #[J 1,J 0,Y a,Y b] w fun e w'=>∃fl:Int,e=O (aK (o7.mul a b) fl)/\Gb w w'):=fun w=>(Ci 1 0 a b ha.1 ha.2 hb.1 hb.2 w).mono fun e w' ⟨Z,fl,hp,he,hg⟩=>⟨fl,by rw[Bj hp];exact he,hg⟩;generalize o7.mul a b=z at*
 clear ha hb;go_enter func42,ntmps42;go_wp2_with (go_at_call 104;refine(HA _).mono ?_;rintro e w1 ⟨fl,rfl,ak⟩);go_returns;exact⟨rfl,kg⟩
theorem aIi(w:World):CT 45 #[J 1,J 0,Y 4607182418800017408,Y 4611686018427387904] w fun e w'=>∃fl:Int,e=O (aK qR fl)/\Gb w w':=by
 refine(MN wC 0 4607182418800017408 4611686018427387904 ⟨de,de⟩ de de de de (x:=⟨1,0,0-52,4503599627370496⟩) (y:=⟨1,0,1-52,4503599627370496⟩) (wU 0 0 de de de) (wU 0 1 de de de) rfl rfl w).mono ?_;rintro e w' ⟨Z,fl,hp,he,hg⟩;refine⟨fl,?_,hg⟩;have h1:o_ 53 (1-1023) 1023 4503599627370496 9218868437227405312 9223372036854775808 9221120237041090560 0 ⟨1,0,-59,288230376151711744⟩ qR 0:=.inl (.inr (.inl ⟨rfl,4602678819172646912,⟨-1,-1,4503599627370496,4503599627370496,0,de,.inr ⟨de,rfl⟩,de,de,de,.inr (.inr ⟨de,de,de,.inl ⟨rfl,rfl⟩⟩)⟩,rfl⟩));have h2:=(o_.one hp h1).1;rw[he,h2]
theorem aAw(w:World):QB 44 #[] w (Y qR):=by
 have hf:=nT;have H1:KB 40 #[J 1] (Y 4607182418800017408):=fun w=>by have:=Jc 1 de de w;rw[i1]at this;exact this
 have H2:KB 40 #[J 2] (Y 4611686018427387904):=fun w=>by have:=Jc 2 de de w;rw[i2]at this;exact this
 have HA:Hid _:=aIi;go_enter func44,ntmps44;go_wp2_with (first
  |(go_at_call 40;first|(with_reducible refine ku (H1.out _) fun w1 ak=>?_)|(with_reducible refine ku (H2.out _) fun w2 aA=>?_))
  |(go_at_call 45;refine(HA _).mono ?_;rintro e w3 ⟨fl,rfl,aC⟩))
 go_returns;exact⟨rfl,kg⟩
theorem aG5(ha:Wo a):∃c s x g:Int,Unp a c s/\bD 1 a c s x g:=by
 have h0:=ha.1;have h1:=ha.2;obtain⟨x,hx⟩:=fG wC a h0 h1;refine⟨x.c,x.s,x.e,((x.M:Nat):Int),?_,iC wC a h0 om hx⟩;rcases hx with⟨_,v,hs,hv⟩|⟨c,_⟩
 ·have hva:v=a%9223372036854775808:=om;refine⟨om,?_,?_,om⟩
  ·exact aDX
  ·exact aDX
 ·omega
theorem aHz:o7.S where
 word:=fun n n0 n1 w=>Jc n n0 n1 w
 minus:=fun a b ha hb w=>aCu ha hb w
 times:=fun a b ha hb w=>TR ha hb w
 half:=aAw
 aAF:=fun w=>(iw 1 0 3 _ de de w).mono fun e w' ⟨Z,fl,hp,he,hg⟩=>⟨fl,by rw[<-(dU.one hp f32).1];exact he,hg⟩
 aAE:=fun w=>(iw 1 0 3 _ de de w).mono fun e w' ⟨Z,fl,hp,he,hg⟩=>⟨fl,by rw[<-(dU.one hp f63).1];exact he,hg⟩
 unp:=aG5
 order:=fun a b ha hb w=>JW 1 a b _ _ 9223372036854775808 _ (fun w=>je wC w) de rfl rfl rfl w
 jc:=fun a ha w=>(rH 1 4 a false ha.1 ha.2 w).mono fun e w' ⟨Z,fl,hp,he,hg⟩=>⟨fl,by rw[DU hp];exact he,hg⟩
 fix:=fun a ha w=>(qI 1 2 3 a ha.1 ha.2 w).mono fun e w' ⟨Z,fl,hp,he,hg⟩=>⟨fl,by rw[JI hp];exact he,hg⟩
 whole:=fun a ha w=>(qI 1 0 1 a ha.1 ha.2 w).mono fun e w' ⟨Z,fl,hp,he,hg⟩=>⟨fl,by rw[Fa hp];exact he,hg⟩
 k1:=by rw[aJE];exact aJA
 k2:=by rw[i41];exact m41
 k3:=by rw[i1];exact m1
 k4:=by rw[i2];exact m2
 k5:=by rw[i0];exact m0
 k6:=mh
 k7:=mq
 neg:=aHB
theorem aBs(n:Int)(n0:-9223372036854775808<=n)(n1:n<=9223372036854775807)(hw:Fm w):
  QR 139 #[J n] w (Y (o7.int n)):=by
 have hf:=nT;have hwr:IntKind.u64.wrap n=n%18446744073709551616:=IntKind.wrap_u64 n;have HA:Hid (CT 145 #[J 1,J 0,J 1,Y (n%18446744073709551616)] w fun e w'=>∃fl:Int,e=O (aK (o7.int n) fl)/\Gr w w'):=(uP 1 0 1 _ (Int.emod_nonneg _ de) (Int.emod_lt_of_pos _ de) w hw).mono fun e w' ⟨Z,fl,hp,he,hg⟩=>⟨fl,by rw[vS hp];exact he,hg⟩;generalize o7.int n=z at*
 generalize n%18446744073709551616=u at*
 clear hw;go_enter func139,ntmps139;go_wp2_with (go_at_call 145;refine HA.out.mono ?_;rintro e w1 ⟨fl,rfl,ak⟩);go_returns;exact⟨rfl,kr⟩
theorem ZP(ha:Wo a)(hb:Wo b)(hw:Fm w):
  QR 66 #[Y a,Y b] w (Y (o7.sub a b)):=by
 have hf:=nT;have HA:Hid (CT 134 #[J 1,J 0,Y a,Y b] w fun e w'=>∃fl:Int,e=O (aK (o7.sub a b) fl)/\Gr w w'):=(CS 1 0 a b ha.1 ha.2 hb.1 hb.2 w hw).mono fun e w' ⟨Z,fl,hp,he,hg⟩=>⟨fl,by rw[JH hp];exact he,hg⟩;generalize o7.sub a b=z at*
 clear ha hb hw;go_enter func66,ntmps66;go_wp2_with (go_at_call 134;refine HA.out.mono ?_;rintro e w1 ⟨fl,rfl,ak⟩);go_returns;exact⟨rfl,kr⟩
theorem YA(ha:Wo a)(hb:Wo b)(hw:Fm w):
  QR 67 #[Y a,Y b] w (Y (o7.mul a b)):=by
 have hf:=nT;have HA:Hid (CT 135 #[J 1,J 0,Y a,Y b] w fun e w'=>∃fl:Int,e=O (aK (o7.mul a b) fl)/\Gr w w'):=(CU 1 0 a b ha.1 ha.2 hb.1 hb.2 w hw).mono fun e w' ⟨Z,fl,hp,he,hg⟩=>⟨fl,by rw[Bj hp];exact he,hg⟩;generalize o7.mul a b=z at*
 clear ha hb hw;go_enter func67,ntmps67;go_wp2_with (go_at_call 135;refine HA.out.mono ?_;rintro e w1 ⟨fl,rfl,ak⟩);go_returns;exact⟨rfl,kr⟩
theorem aGt(ha:Wo a)(hw:Fm w):
  QR 68 #[Y a] w (Y (o7.fix a)):=by
 have hf:=nT;have HA:Hid (CT 37 #[J 1,J 2,J 3,Y a] w fun e w'=>∃fl:Int,e=O (aK (o7.fix a) fl)/\Gr w w'):=(qQ 1 2 3 a ha.1 ha.2 w hw).mono fun e w' ⟨Z,fl,hp,he,hg⟩=>⟨fl,by rw[JI hp];exact he,hg⟩;generalize o7.fix a=z at*
 clear ha hw;go_enter func68,ntmps68;go_wp2_with (go_at_call 37;refine HA.out.mono ?_;rintro e w1 ⟨fl,rfl,ak⟩);go_returns;exact⟨rfl,kr⟩
theorem aHA:o7.I where
 word:=fun n n0 n1 w hw=>aBs n n0 n1 hw
 minus:=fun a b ha hb w hw=>ZP ha hb hw
 times:=fun a b ha hb w hw=>YA ha hb hw
 fix:=fun a ha w hw=>aGt ha hw
 jc:=fun a ha w hw=>(sG 1 4 a false ha.1 ha.2 w hw).mono fun e w' ⟨Z,fl,hp,he,hg⟩=>⟨fl,by rw[DU hp];exact he,hg⟩
 whole:=fun a ha h0 w hw=>(qQ 1 2 1 (o7.jc a) (CG.jc ha).1 (CG.jc ha).2 w hw).mono fun e w' ⟨Z,fl,hp,he,hg⟩=>⟨fl,by rw[aBt ha h0 hp];exact he,hg⟩
theorem MS{o:O7}(H:o.S)(HI:o.In)(hm:Wo mu)(hi:Wo inv)(hs:Wo scale)(s:ByteArray)(hz:s.size<=1048576)(w:World):
  CT 21 #[Y mu,Y inv,Y scale,.string s] w fun e w'=>∃r,o.gG mu inv scale s r/\e=O (pJ r)/\Gb w w':=by
 by_cases c:s.size<=20000/\isC mu inv scale=true
 ·exact(Ju H HI hm hi hs s c.1 c.2 w).mono fun e w' ⟨r,h1,h2,h3⟩=>⟨r,by unfold O7.gG;rw[if_pos c];exact h1,h2,h3⟩
 ·exact(MV H HI hm hi hs s hz c w).mono fun e w' ⟨h1,h2⟩=>⟨_,by unfold O7.gG;rw[if_neg c],h1,h2⟩
theorem MX{o:O7}(H:o.I)(HI:o.In)(hm:Wo mu)(hi:Wo inv)(hs:Wo scale)(s:ByteArray)(hz:s.size<=1048576)(hw:Fm w)(hT:Tl w)(hD:Dc w):
  CT 22 #[Y mu,Y inv,Y scale,.string s] w fun e w'=>∃r,o.gG mu inv scale s r/\e=O (pJ r)/\Gr w w':=by
 by_cases c:s.size<=20000/\isC mu inv scale=true
 ·exact(Jv H HI hm hi hs s c.1 c.2 hw hT hD).mono fun e w' ⟨r,h1,h2,h3⟩=>⟨r,by unfold O7.gG;rw[if_pos c];exact h1,h2,h3⟩
 ·exact(MW hm hi hs s hz c hw).mono fun e w' ⟨h1,h2⟩=>⟨_,by unfold O7.gG;rw[if_neg c],h1,h2⟩
end
